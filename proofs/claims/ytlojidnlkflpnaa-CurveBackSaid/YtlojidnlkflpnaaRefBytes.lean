/-
  The document's Right and Bytes.
-/
import Derived.Test.YtlojidnlkflpnaaRefMinus
import Derived.Test.YtlojidnlkflpnaaFeOwn
namespace Go.Proofs.Ytlojidnlkflpnaa
open Go.RowKit Go.Lib

set_option maxHeartbeats 2000000 in
set_option maxRecDepth 100000 in
theorem rightR_any (w : World) (x : Nat) (hx : x < 115792089237316195423570985008687907853269984665640564039457584007913129639936) : Calls Try.prog 44 #[modV, fv x] w fun e w' => e = .returned (.bool (decide (x < pM))) ∧ Below w.heap.size w w' := by
  obtain ⟨p, hp⟩ : ∃ p, p = 115792089237316195423570985008687907853269984665640564039457584007908834671663 := ⟨_, rfl⟩
  obtain ⟨b, hb⟩ : ∃ b, b = decide (x < pM) := ⟨_, rfl⟩
  have cb : ∀ w, Calls Try.prog 85 #[fv x, fv p] w fun e w' => e = .returned (.bool b) ∧ Below w.heap.size w w' := by
    intro w; rw [hb, pM_eq, ← hp]; exact below_at w x p rfl rfl hx (by omega)
  have hpc : fv p = .agg #[.int .u64 18446744069414583343, .int .u64 18446744073709551615, .int .u64 18446744073709551615, .int .u64 18446744073709551615] := by rw [hp]; exact fv_P
  obtain ⟨x0, x1, x2, x3, fx⟩ := words_fv x hx
  have FX := Lib.hid fx
  have FP := Lib.hid hpc
  rw [fx, ← hb]
  unfold modV
  clear fx hpc hx hp hb
  go_enter Try.func44, Try.ntmps44
  go_wp2_with (first | ((with_reducible refine here_load (d := some 5) ?_); refine wpList_load_fv rfl _ _ rfl (w.heap.size + 1) rfl (x) _ _ _ (blk_new2 w _ _ _) (FX.out) Try.underlying62 rfl (by kernel_rfl) ?_) | ((with_reducible refine here_load (d := some 7) ?_); refine wpList_load_part rfl _ _ rfl w.heap.size rfl p [.int .u64 18446744069414583343, .int .u64 18446744073709551615, .int .u64 18446744073709551615, .int .u64 18446744073709551615] _ (mod_range ((Blk.new w _ _).alloc _)) FP.out Try.underlying62 rfl (by kernel_rfl) ?_))
  refine (cb _).mono ?_
  rintro e w1 ⟨rfl, k1⟩
  go_wp2
  go_ret
  exact ⟨rfl, Below.gr (below_alloc2 w _ _) k1⟩

theorem div_word (a r s : Nat) (hs : s ≤ 56) : (a + 18446744073709551616 * r) / 2 ^ s % 256 = a / 2 ^ s % 256 := by
  obtain ⟨u, hu⟩ : ∃ u, 2 ^ s * (256 * u) = 18446744073709551616 := by
    refine ⟨2 ^ (56 - s), ?_⟩
    have : 2 ^ s * 2 ^ (56 - s) = 2 ^ 56 := by rw [← Nat.pow_add]; congr 1; omega
    rw [show (256 : Nat) * 2 ^ (56 - s) = 2 ^ (56 - s) * 256 from Nat.mul_comm _ _, ← Nat.mul_assoc, this]
  rw [← hu, Nat.mul_assoc, Nat.add_mul_div_left _ _ (Nat.two_pow_pos s), Nat.mul_assoc, Nat.add_mul_mod_self_left]
theorem shift_word (z i s w r : Nat) (hz : z / 2 ^ (64 * i) = w + 18446744073709551616 * r) (hs : s ≤ 56) : z / 2 ^ (64 * i + s) % 256 = w / 2 ^ s % 256 := by
  rw [Nat.pow_add, ← Nat.div_div_eq_div_mul, hz, div_word w r s hs]
theorem lowB_get (z : Nat) : ∀ (k j : Nat), j < k → (lowB z k)[j]? = some (byteN z (k - 1 - j))
  | 0, j, h => by omega
  | k + 1, 0, _ => by simp [lowB]
  | k + 1, j + 1, h => by
    rw [lowB, List.getElem?_cons_succ, lowB_get z k j (by omega)]
    congr 2
    omega
theorem take_bytes (z n : Nat) (h : n < 32) : (bytesS z).take n ++ [byteN z (31 - n)] = (bytesS z).take (n + 1) := by
  rw [List.take_add_one, bytesS, lowB_get z 32 n h]
  rfl
theorem byteOf (x : UInt8) (z : Int) (h : z = (x.toNat : Int)) : (Value.int .u8 z) = bv x := by rw [h]; rfl

set_option maxHeartbeats 4000000 in
set_option maxRecDepth 100000 in
theorem bytesR_any (w : World) (z : Nat) (hz : z < 115792089237316195423570985008687907853269984665640564039457584007913129639936) : Calls Try.prog 68 #[fv z] w fun e w' => ∃ g cap, e = .returned (.slice (some ⟨g, 0, none⟩) 32 cap) ∧ OwnB w' (w.heap.size + 1) (.slice (some ⟨g, 0, none⟩) 32 cap) (bytesS z) ∧ g < w'.heap.size ∧ Below w.heap.size w w' := by
  obtain ⟨z0, z1, z2, z3, a0, a1, a2, a3, ez, fz⟩ := words_of z hz
  have s0 := fun s hs => shift_word z 0 s z0 (z1 + 18446744073709551616 * z2 + 340282366920938463463374607431768211456 * z3) (by omega) hs
  have s1 := fun s hs => shift_word z 1 s z1 (z2 + 18446744073709551616 * z3) (by omega) hs
  have s2 := fun s hs => shift_word z 2 s z2 z3 (by omega) hs
  have s3 := fun s hs => shift_word z 3 s z3 0 (by omega) hs
  have HS := Lib.hid (And.intro s0 (And.intro s1 (And.intro s2 s3)))
  rw [fz]
  clear ez fz hz a0 a1 a2 a3 s0 s1 s2 s3
  go_enter Try.func68, Try.ntmps68
  go_wp2_with fail
  go_loopw [3, 4] (fun v i wr => Below w.heap.size w wr ∧ Blk wr w.heap.size 62 #[.int .u64 (z0 : Int), .int .u64 (z1 : Int), .int .u64 (z2 : Int), .int .u64 (z3 : Int)] ∧ Hid ((i = .int .i64 3 ∧ OwnB wr (w.heap.size + 1) v ((bytesS z).take 0)) ∨ (i = .int .i64 2 ∧ OwnB wr (w.heap.size + 1) v ((bytesS z).take 8)) ∨ (i = .int .i64 1 ∧ OwnB wr (w.heap.size + 1) v ((bytesS z).take 16)) ∨ (i = .int .i64 0 ∧ OwnB wr (w.heap.size + 1) v ((bytesS z).take 24)) ∨ (i = .int .i64 (-1) ∧ OwnB wr (w.heap.size + 1) v ((bytesS z).take 32)))) (fun _ i _ => (intOf i + 1).toNat)
  case atStart => exact ⟨(Below.refl _ _).alloc (Nat.le_refl _) _, Blk.new w _ _, Lib.hid (.inl ⟨rfl, OwnB.nil _ _⟩)⟩
  case round =>
    obtain ⟨hb, BZ, HI⟩ := hrel
    rcases HI.out with ⟨rfl, hown⟩ | ⟨rfl, hown⟩ | ⟨rfl, hown⟩ | ⟨rfl, hown⟩ | ⟨rfl, hown⟩
    · clear HI
      go_wp2_with fail
      go_loopw [3, 5] (fun v s wr => ∃ t : Nat, t ≤ 8 ∧ s = .int .i64 (56 - 8 * (t : Int)) ∧ Below w.heap.size w wr ∧ Blk wr w.heap.size 62 #[.int .u64 (z0 : Int), .int .u64 (z1 : Int), .int .u64 (z2 : Int), .int .u64 (z3 : Int)] ∧ OwnB wr (w.heap.size + 1) v ((bytesS z).take (0 + t))) (fun _ s _ => (intOf s + 8).toNat)
      case atStart => exact ⟨0, by omega, rfl, hb, BZ, hown⟩
      case round =>
        clear hb BZ hown
        obtain ⟨t, ht, rfl, hb, BZ, hown⟩ := hrel
        by_cases hlt : t < 8
        · obtain ⟨s, hs⟩ : ∃ s, s = 56 - 8 * t := ⟨_, rfl⟩
          have hs1 : (56 - 8 * (t : Int)) = (s : Int) := by omega
          obtain ⟨x, hx⟩ : ∃ x, x = byteN z (31 - (0 + t)) := ⟨_, rfl⟩
          have hxe : (z3 : Int) / 2 ^ s % 256 = (x.toNat : Int) := by
            have h := HS.out.2.2.2 s (by omega)
            have e : 8 * (31 - (0 + t)) = 64 * 3 + s := by omega
            rw [hx, byteN, UInt8.toNat_ofNat', e, h]
            have : ((z3 : Int) / 2 ^ s % 256) = ((z3 / 2 ^ s % 256 : Nat) : Int) := by push_cast; rfl
            rw [this]
            omega
          have hlen : ((bytesS z).take (0 + t)).length ≤ 32 := by rw [List.length_take, bytesS_length]; omega
          have HX := Lib.hid (And.intro hx (And.intro hxe hlen))
          have pc : wr.cell? ⟨w.heap.size, 3, none⟩ = some (.int .u64 (z3 : Int)) := BZ.cell 3
          have hsl : s ≤ 56 := by omega
          have HT := Lib.hid hs
          have lz := BZ.lt
          rw [hs1]
          clear hx hxe hlen hs
          go_wp2_with (at_builtin
                       refine wpList_append_bytes rfl (.tmp 14) (.tmp 21) rfl (w.heap.size + 1) _ ((bytesS z).take (0 + t)) rfl (hown.alloc _) (some ⟨wr.heap.size, 0, none⟩) [x] 1 rfl (Src.of_blk (Blk.eq_ (Blk.new wr 5 _) (by rw [HX.out.2.1]; rfl))) (by have := HX.out.2.2; simp only [List.length_singleton]; omega) (by simp <;> omega) ?_
                       intro v3 w3 hv3 hg3
                       have hb3 := below_own (hb.alloc (by omega) _) (hown.alloc _) hg3 (Nat.le_succ _) (by simp <;> omega)
                       have BZ3 := Blk.grown (BZ.alloc _) hg3 (fun e => by have := (World.ownsRow.lt hown _ e.symm).1; omega)
                       rw [HX.out.1, take_bytes z (0 + t) (by omega)] at hv3)
          go_roundw
          case rel => exact ⟨t + 1, by omega, by congr 1; omega, hb3, BZ3, hv3⟩
          case measure => simp [intOf]; omega
        · obtain rfl : t = 8 := by omega
          go_wp2
          refine ⟨⟨hb, BZ, Lib.hid (.inr (.inl (⟨rfl, hown⟩)))⟩, by decide⟩
    · clear HI
      go_wp2_with fail
      go_loopw [3, 5] (fun v s wr => ∃ t : Nat, t ≤ 8 ∧ s = .int .i64 (56 - 8 * (t : Int)) ∧ Below w.heap.size w wr ∧ Blk wr w.heap.size 62 #[.int .u64 (z0 : Int), .int .u64 (z1 : Int), .int .u64 (z2 : Int), .int .u64 (z3 : Int)] ∧ OwnB wr (w.heap.size + 1) v ((bytesS z).take (8 + t))) (fun _ s _ => (intOf s + 8).toNat)
      case atStart => exact ⟨0, by omega, rfl, hb, BZ, hown⟩
      case round =>
        clear hb BZ hown
        obtain ⟨t, ht, rfl, hb, BZ, hown⟩ := hrel
        by_cases hlt : t < 8
        · obtain ⟨s, hs⟩ : ∃ s, s = 56 - 8 * t := ⟨_, rfl⟩
          have hs1 : (56 - 8 * (t : Int)) = (s : Int) := by omega
          obtain ⟨x, hx⟩ : ∃ x, x = byteN z (31 - (8 + t)) := ⟨_, rfl⟩
          have hxe : (z2 : Int) / 2 ^ s % 256 = (x.toNat : Int) := by
            have h := HS.out.2.2.1 s (by omega)
            have e : 8 * (31 - (8 + t)) = 64 * 2 + s := by omega
            rw [hx, byteN, UInt8.toNat_ofNat', e, h]
            have : ((z2 : Int) / 2 ^ s % 256) = ((z2 / 2 ^ s % 256 : Nat) : Int) := by push_cast; rfl
            rw [this]
            omega
          have hlen : ((bytesS z).take (8 + t)).length ≤ 32 := by rw [List.length_take, bytesS_length]; omega
          have HX := Lib.hid (And.intro hx (And.intro hxe hlen))
          have pc : wr.cell? ⟨w.heap.size, 2, none⟩ = some (.int .u64 (z2 : Int)) := BZ.cell 2
          have hsl : s ≤ 56 := by omega
          have HT := Lib.hid hs
          have lz := BZ.lt
          rw [hs1]
          clear hx hxe hlen hs
          go_wp2_with (at_builtin
                       refine wpList_append_bytes rfl (.tmp 14) (.tmp 21) rfl (w.heap.size + 1) _ ((bytesS z).take (8 + t)) rfl (hown.alloc _) (some ⟨wr.heap.size, 0, none⟩) [x] 1 rfl (Src.of_blk (Blk.eq_ (Blk.new wr 5 _) (by rw [HX.out.2.1]; rfl))) (by have := HX.out.2.2; simp only [List.length_singleton]; omega) (by simp <;> omega) ?_
                       intro v3 w3 hv3 hg3
                       have hb3 := below_own (hb.alloc (by omega) _) (hown.alloc _) hg3 (Nat.le_succ _) (by simp <;> omega)
                       have BZ3 := Blk.grown (BZ.alloc _) hg3 (fun e => by have := (World.ownsRow.lt hown _ e.symm).1; omega)
                       rw [HX.out.1, take_bytes z (8 + t) (by omega)] at hv3)
          go_roundw
          case rel => exact ⟨t + 1, by omega, by congr 1; omega, hb3, BZ3, hv3⟩
          case measure => simp [intOf]; omega
        · obtain rfl : t = 8 := by omega
          go_wp2
          refine ⟨⟨hb, BZ, Lib.hid (.inr (.inr (.inl (⟨rfl, hown⟩))))⟩, by decide⟩
    · clear HI
      go_wp2_with fail
      go_loopw [3, 5] (fun v s wr => ∃ t : Nat, t ≤ 8 ∧ s = .int .i64 (56 - 8 * (t : Int)) ∧ Below w.heap.size w wr ∧ Blk wr w.heap.size 62 #[.int .u64 (z0 : Int), .int .u64 (z1 : Int), .int .u64 (z2 : Int), .int .u64 (z3 : Int)] ∧ OwnB wr (w.heap.size + 1) v ((bytesS z).take (16 + t))) (fun _ s _ => (intOf s + 8).toNat)
      case atStart => exact ⟨0, by omega, rfl, hb, BZ, hown⟩
      case round =>
        clear hb BZ hown
        obtain ⟨t, ht, rfl, hb, BZ, hown⟩ := hrel
        by_cases hlt : t < 8
        · obtain ⟨s, hs⟩ : ∃ s, s = 56 - 8 * t := ⟨_, rfl⟩
          have hs1 : (56 - 8 * (t : Int)) = (s : Int) := by omega
          obtain ⟨x, hx⟩ : ∃ x, x = byteN z (31 - (16 + t)) := ⟨_, rfl⟩
          have hxe : (z1 : Int) / 2 ^ s % 256 = (x.toNat : Int) := by
            have h := HS.out.2.1 s (by omega)
            have e : 8 * (31 - (16 + t)) = 64 * 1 + s := by omega
            rw [hx, byteN, UInt8.toNat_ofNat', e, h]
            have : ((z1 : Int) / 2 ^ s % 256) = ((z1 / 2 ^ s % 256 : Nat) : Int) := by push_cast; rfl
            rw [this]
            omega
          have hlen : ((bytesS z).take (16 + t)).length ≤ 32 := by rw [List.length_take, bytesS_length]; omega
          have HX := Lib.hid (And.intro hx (And.intro hxe hlen))
          have pc : wr.cell? ⟨w.heap.size, 1, none⟩ = some (.int .u64 (z1 : Int)) := BZ.cell 1
          have hsl : s ≤ 56 := by omega
          have HT := Lib.hid hs
          have lz := BZ.lt
          rw [hs1]
          clear hx hxe hlen hs
          go_wp2_with (at_builtin
                       refine wpList_append_bytes rfl (.tmp 14) (.tmp 21) rfl (w.heap.size + 1) _ ((bytesS z).take (16 + t)) rfl (hown.alloc _) (some ⟨wr.heap.size, 0, none⟩) [x] 1 rfl (Src.of_blk (Blk.eq_ (Blk.new wr 5 _) (by rw [HX.out.2.1]; rfl))) (by have := HX.out.2.2; simp only [List.length_singleton]; omega) (by simp <;> omega) ?_
                       intro v3 w3 hv3 hg3
                       have hb3 := below_own (hb.alloc (by omega) _) (hown.alloc _) hg3 (Nat.le_succ _) (by simp <;> omega)
                       have BZ3 := Blk.grown (BZ.alloc _) hg3 (fun e => by have := (World.ownsRow.lt hown _ e.symm).1; omega)
                       rw [HX.out.1, take_bytes z (16 + t) (by omega)] at hv3)
          go_roundw
          case rel => exact ⟨t + 1, by omega, by congr 1; omega, hb3, BZ3, hv3⟩
          case measure => simp [intOf]; omega
        · obtain rfl : t = 8 := by omega
          go_wp2
          refine ⟨⟨hb, BZ, Lib.hid (.inr (.inr (.inr (.inl (⟨rfl, hown⟩)))))⟩, by decide⟩
    · clear HI
      go_wp2_with fail
      go_loopw [3, 5] (fun v s wr => ∃ t : Nat, t ≤ 8 ∧ s = .int .i64 (56 - 8 * (t : Int)) ∧ Below w.heap.size w wr ∧ Blk wr w.heap.size 62 #[.int .u64 (z0 : Int), .int .u64 (z1 : Int), .int .u64 (z2 : Int), .int .u64 (z3 : Int)] ∧ OwnB wr (w.heap.size + 1) v ((bytesS z).take (24 + t))) (fun _ s _ => (intOf s + 8).toNat)
      case atStart => exact ⟨0, by omega, rfl, hb, BZ, hown⟩
      case round =>
        clear hb BZ hown
        obtain ⟨t, ht, rfl, hb, BZ, hown⟩ := hrel
        by_cases hlt : t < 8
        · obtain ⟨s, hs⟩ : ∃ s, s = 56 - 8 * t := ⟨_, rfl⟩
          have hs1 : (56 - 8 * (t : Int)) = (s : Int) := by omega
          obtain ⟨x, hx⟩ : ∃ x, x = byteN z (31 - (24 + t)) := ⟨_, rfl⟩
          have hxe : (z0 : Int) / 2 ^ s % 256 = (x.toNat : Int) := by
            have h := HS.out.1 s (by omega)
            have e : 8 * (31 - (24 + t)) = 64 * 0 + s := by omega
            rw [hx, byteN, UInt8.toNat_ofNat', e, h]
            have : ((z0 : Int) / 2 ^ s % 256) = ((z0 / 2 ^ s % 256 : Nat) : Int) := by push_cast; rfl
            rw [this]
            omega
          have hlen : ((bytesS z).take (24 + t)).length ≤ 32 := by rw [List.length_take, bytesS_length]; omega
          have HX := Lib.hid (And.intro hx (And.intro hxe hlen))
          have pc : wr.cell? ⟨w.heap.size, 0, none⟩ = some (.int .u64 (z0 : Int)) := BZ.cell 0
          have hsl : s ≤ 56 := by omega
          have HT := Lib.hid hs
          have lz := BZ.lt
          rw [hs1]
          clear hx hxe hlen hs
          go_wp2_with (at_builtin
                       refine wpList_append_bytes rfl (.tmp 14) (.tmp 21) rfl (w.heap.size + 1) _ ((bytesS z).take (24 + t)) rfl (hown.alloc _) (some ⟨wr.heap.size, 0, none⟩) [x] 1 rfl (Src.of_blk (Blk.eq_ (Blk.new wr 5 _) (by rw [HX.out.2.1]; rfl))) (by have := HX.out.2.2; simp only [List.length_singleton]; omega) (by simp <;> omega) ?_
                       intro v3 w3 hv3 hg3
                       have hb3 := below_own (hb.alloc (by omega) _) (hown.alloc _) hg3 (Nat.le_succ _) (by simp <;> omega)
                       have BZ3 := Blk.grown (BZ.alloc _) hg3 (fun e => by have := (World.ownsRow.lt hown _ e.symm).1; omega)
                       rw [HX.out.1, take_bytes z (24 + t) (by omega)] at hv3)
          go_roundw
          case rel => exact ⟨t + 1, by omega, by congr 1; omega, hb3, BZ3, hv3⟩
          case measure => simp [intOf]; omega
        · obtain rfl : t = 8 := by omega
          go_wp2
          refine ⟨⟨hb, BZ, Lib.hid (.inr (.inr (.inr (.inr (⟨rfl, hown⟩)))))⟩, by decide⟩
    · clear HI
      rw [List.take_of_length_le (by rw [bytesS_length]; exact Nat.le_refl _)] at hown
      obtain ⟨g, n, cap, rfl, hn, _, hl⟩ := hown.form' (by rw [bytesS_length]; omega)
      have hn32 : n = 32 := by rw [hn.out, bytesS_length]
      subst hn32
      go_wp2
      go_ret
      exact ⟨g, cap, rfl, hown, hl, hb⟩
end Go.Proofs.Ytlojidnlkflpnaa
