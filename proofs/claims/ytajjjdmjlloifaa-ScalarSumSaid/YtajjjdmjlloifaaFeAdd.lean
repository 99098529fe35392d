/-
  fe.reduce, fe.add.
-/
import Derived.Test.YtajjjdmjlloifaaFeBase
namespace Go.Proofs.Ytajjjdmjlloifaa
open Go.RowKit Go.Lib

/-- a whole array or struct into a block of the call's own: of the world behind it these facts -/
theorem wpList_store_blk {P : Program} {ops : Array Oper} {rest : List Oper} {o : Oper} {a : Act} {w1 : World} {Q : Exit → Act → World → Prop} (hgd : o.guard = none) (ty : TypeId) (x y : Operand) (ho : o.op = .store ty x y)
    (g : Nat) (cells : Array Value) (hx : a.eval x = .pointer (some ⟨g, 0, none⟩)) (hy : a.eval y = .agg cells) (t : TypeId) (c : Array Value) (hg : Blk w1 g t c)
    (hi : (P.info? ty).map (·.size) = some cells.size) (hold : c.size = cells.size) (h1 : cells.all (·.oneCell') = true)
    (h : ∀ w2, Blk w2 g t cells → (∀ B, B ≤ g → Below B w1 w2) → (∀ k, k ≠ g → ∀ t' cs', Blk w1 k t' cs' → Blk w2 k t' cs') → wpList P ops Q rest (a.put o.dst undef) w2) : wpList P ops Q (o :: rest) a w1 :=
  wpList_store_row hgd ty x y ho g cells hx hy t c hg hi hold h1
    (h _ (hg.setRow cells) (fun _ hB => below_setRow (Below.refl _ _) hB _) (fun _ hk _ _ hb => hb.setRow_far hk _))

theorem wpList_load_blk {P : Program} {ops : Array Oper} {rest : List Oper} {o : Oper} {a : Act} {w : World} {Q : Exit → Act → World → Prop} (hgd : o.guard = none) (ty : TypeId) (x : Operand) (ho : o.op = .load ty x)
    (g : Nat) (hx : a.eval x = .pointer (some ⟨g, 0, none⟩)) (t : TypeId) (cs : Array Value) (d : TypeDesc) (hg : Blk w g t cs)
    (hu : P.underlying ty = some d) (hd : (match d with | .struct _ | .array _ _ => true | _ => false) = true) (hi : (P.info? ty).map (·.size) = some cs.size)
    (h : wpList P ops Q rest (a.put o.dst (.agg cs)) w) : wpList P ops Q (o :: rest) a w :=
  wpList_load_row hgd ty x ho g hx t cs (0, 0) d hg hu hd hi h

theorem Blk.set0 {w : World} {g : Nat} {t : TypeId} {a b c d : Value} (h : Blk w g t #[a, b, c, d]) (u : Value) : Blk (w.setCell ⟨g, 0, none⟩ u) g t #[u, b, c, d] := h.set_ 0 u
theorem fv_G : fv 4294968273 = .agg #[.int .u64 4294968273, .int .u64 0, .int .u64 0, .int .u64 0] := rfl
theorem fv_0 : fv 0 = .agg #[.int .u64 0, .int .u64 0, .int .u64 0, .int .u64 0] := rfl

set_option maxHeartbeats 1000000 in
theorem reduce_any (w : World) (x : Nat) (hx : x < 115792089237316195423570985008687907853269984665640564039457584007913129639936) : Calls Try.prog 58 #[fv x] w fun e w' => e = .returned (fv (x % pM)) ∧ Below w.heap.size w w' := by
  obtain ⟨x0, x1, x2, x3, a0, a1, a2, a3, ex, fx⟩ := words_of x hx
  have hp := fun w => plus_any w x 4294968273 hx (by decide)
  simp only [fx, fv_G] at hp
  have FX := Lib.hid fx
  have hred := Lib.hid (red_once x hx)
  rw [fx]
  clear ex fx a0 a1 a2 a3
  go_enter Try.func58, Try.ntmps58
  go_wp2_with fail
  refine (hp _).mono ?_
  rintro e w1 ⟨⟨s, k, hs, hk, he, rfl⟩, hb⟩
  have hX : Blk w1 w.heap.size 73 _ := (Blk.alloc (Blk.new w _ _) _).below hb (by simp <;> omega)
  have hR : Blk w1 (w.heap.size + 1) 73 _ := (blk_new2 w _ _ _).below hb (by simp <;> omega)
  have hB : Below w.heap.size w w1 := (below_alloc2 w _ _).trans (hb.mono (by simp <;> omega))
  have hsz : w.heap.size + 2 ≤ w1.heap.size := by have := hb.size; simp at this; omega
  obtain ⟨s0, s1, s2, s3, b0, b1, b2, b3, es, fs⟩ := words_of s hs
  have Fd := Lib.hid fs
  have HE := Lib.hid he
  rw [fs]
  clear es fs he hb hp
  rcases (show k = 0 ∨ k = 1 by omega) with rfl | rfl
  · go_wp2_with (first | ((with_reducible refine here_load (d := some 13) ?_); refine wpList_load_blk rfl _ _ rfl (w.heap.size) rfl _ _ _ (hX.alloc _) Try.underlying73 rfl (by kernel_rfl) ?_) | ((with_reducible refine here_store ?_); refine wpList_store_blk rfl _ _ _ rfl (w.heap.size + 1) _ rfl rfl _ _ (hR.alloc _) (by kernel_rfl) (by rfl) (by simp [Value.oneCell']) ?_; intro w2 hL hB2 hK2))
    exact bodyPost_ret (results_cell_row rfl _ _ (w.heap.size + 1) _ _ (0, 0) _ rfl hL Try.underlying73 rfl (by kernel_rfl)) rfl ⟨by rw [hred.out, if_pos (by have := HE.out; omega), FX.out], (hB.alloc (by omega) _).trans (hB2 _ (by omega))⟩
  · go_wp2_with (first | ((with_reducible refine here_load (d := some 14) ?_); refine wpList_load_blk rfl _ _ rfl (w1.heap.size) rfl _ _ _ (Blk.new w1 _ _) Try.underlying73 rfl (by kernel_rfl) ?_) | ((with_reducible refine here_store ?_); refine wpList_store_blk rfl _ _ _ rfl (w.heap.size + 1) _ rfl rfl _ _ (hR.alloc _) (by kernel_rfl) (by rfl) (by simp [Value.oneCell']) ?_; intro w2 hL hB2 hK2))
    exact bodyPost_ret (results_cell_row rfl _ _ (w.heap.size + 1) _ _ (0, 0) _ rfl hL Try.underlying73 rfl (by kernel_rfl)) rfl ⟨by rw [hred.out, if_neg (by have := HE.out; omega), show x + 4294968273 - 115792089237316195423570985008687907853269984665640564039457584007913129639936 = s by have := HE.out; omega, Fd.out], (hB.alloc (by omega) _).trans (hB2 _ (by omega))⟩

/-- 0 or 1 times what p lacks -/
theorem fv_kG (k : Nat) (hk : k ≤ 1) : Value.agg #[.int .u64 ((k : Int) * 4294968273), .int .u64 0, .int .u64 0, .int .u64 0] = fv (k * 4294968273) := by
  rcases (show k = 0 ∨ k = 1 by omega) with rfl | rfl <;> rfl

set_option maxHeartbeats 1000000 in
theorem add_any (w : World) (x y : Nat) (hx : x < 115792089237316195423570985008687907853269984665640564039457584007913129639936) (hy : y < 115792089237316195423570985008687907853269984665640564039457584007913129639936) : Calls Try.prog 59 #[fv x, fv y] w fun e w' => (∃ z s k u j : Nat, s < 115792089237316195423570985008687907853269984665640564039457584007913129639936 ∧ s + 115792089237316195423570985008687907853269984665640564039457584007913129639936 * k = x + y ∧ u < 115792089237316195423570985008687907853269984665640564039457584007913129639936 ∧ u + 115792089237316195423570985008687907853269984665640564039457584007913129639936 * j = s + k * 4294968273 ∧ z = u + j * 4294968273 ∧ e = .returned (fv z)) ∧ Below w.heap.size w w' := by
  obtain ⟨x0, x1, x2, x3, a0, a1, a2, a3, ex, fx⟩ := words_of x hx
  obtain ⟨y0, y1, y2, y3, b0, b1, b2, b3, ey, fy⟩ := words_of y hy
  have hp := fun w => plus_any w x y hx hy
  simp only [fx, fy] at hp
  rw [fx, fy]
  clear ex fx a0 a1 a2 a3 ey fy b0 b1 b2 b3 hx hy
  go_enter Try.func59, Try.ntmps59
  go_wp2_with fail
  refine (hp _).mono ?_
  rintro e w1 ⟨⟨s, k, hs, hk, he, rfl⟩, hb⟩
  have hR : Blk w1 (w.heap.size + 2) 73 _ := (blk_new3 w _ _ _ _).below hb (by simp <;> omega)
  have hB : Below w.heap.size w w1 := (below_alloc3 w _ _ _).trans (hb.mono (by simp <;> omega))
  have hsz : w.heap.size + 3 ≤ w1.heap.size := by have := hb.size; simp at this; omega
  obtain ⟨s0, s1, s2, s3, c0, c1, c2, c3, es, fs⟩ := words_of s hs
  have HE := Lib.hid he
  have HS := Lib.hid hs
  have hq := fun w => plus_any w s (k * 4294968273) hs (by omega)
  simp only [fs, ← fv_kG k hk] at hq
  rw [fs]
  clear es fs he hb hp c0 c1 c2 c3 hs
  go_wp2_with fail
  refine (hq _).mono ?_
  rintro e w2 ⟨⟨u, j, hu, hj, hf, rfl⟩, hb⟩
  have hR2 : Blk w2 (w.heap.size + 2) 73 _ := (hR.alloc _).below hb (by simp <;> omega)
  have hT2 : Blk w2 w1.heap.size 73 _ := (Blk.new w1 _ _).below hb (by simp)
  have hB2 : Below w.heap.size w w2 := (hB.alloc (by omega) _).trans (hb.mono (by simp <;> omega))
  have hsz2 : w1.heap.size + 1 ≤ w2.heap.size := by have := hb.size; simp at this; omega
  obtain ⟨u0, u1, u2, u3, d0, d1, d2, d3, eu, fu⟩ := words_of u hu
  have hu0 : u0 + j * 4294968273 < 18446744073709551616 := by
    have := HS.out
    rcases (show j = 0 ∨ j = 1 by omega) with rfl | rfl <;> omega
  obtain ⟨jg, ejg⟩ : ∃ jg, jg = j * 4294968273 := ⟨_, rfl⟩
  obtain ⟨v0, ev0⟩ : ∃ v0, v0 = u0 + jg := ⟨_, rfl⟩
  have hJ : (j : Int) * 4294968273 = (jg : Int) := by omega
  have hV : (u0 : Int) + (jg : Int) = (v0 : Int) := by omega
  have hv0 : v0 < 18446744073709551616 := by omega
  have HV := Lib.hid (And.intro ev0 ejg)
  have HF := Lib.hid hf
  have HU := Lib.hid (And.intro eu (And.intro hu (And.intro d0 (And.intro d1 (And.intro d2 d3)))))
  rw [fu]
  clear eu fu hf hb hq hu d0 d1 d2 d3 hu0 ev0 ejg
  go_wp2_with (first | ((with_reducible refine here_store ?_); refine wpList_store_blk rfl _ _ _ rfl (w1.heap.size) _ rfl rfl _ _ (hT2) (by kernel_rfl) (by rfl) (by simp [Value.oneCell']) ?_; intro w3 hL3 hB3 hK3; have hR3 := hK3 _ (by omega) _ _ hR2; have hc3 := hL3.cell 0; have hf3 := hL3.frozen 0; simp only [List.getElem?_toArray, List.getElem?_cons_zero] at hc3) | ((with_reducible refine here_load (d := some 27) ?_); refine wpList_load_blk rfl _ _ rfl (w1.heap.size) rfl _ _ _ (hL3.set0 _) Try.underlying73 rfl (by kernel_rfl) ?_) | ((with_reducible refine here_store ?_); refine wpList_store_blk rfl _ _ _ rfl (w.heap.size + 2) _ rfl rfl _ _ (hR3.far (by simp <;> omega) _) (by kernel_rfl) (by rfl) (by simp [Value.oneCell']) ?_; intro w4 hL4 hB4 hK4))
  obtain ⟨eu, hu, d0, d1, d2, d3⟩ := HU.out
  obtain ⟨ev0, ejg⟩ := HV.out
  have hz := fv_mk v0 u1 u2 u3 hv0 d1 d2 d3
  exact bodyPost_ret (results_cell_row rfl _ _ (w.heap.size + 2) _ _ (0, 0) _ rfl hL4 Try.underlying73 rfl (by kernel_rfl)) rfl ⟨⟨v0 + 18446744073709551616 * u1 + 340282366920938463463374607431768211456 * u2 + 6277101735386680763835789423207666416102355444464034512896 * u3, s, k, u, j, HS.out, HE.out, hu, HF.out, by omega, by rw [← hz]⟩, hB2.trans ((hB3 _ (by omega)).trans ((Below.refl _ _).setCell (by simp <;> omega) _ |>.trans (hB4 _ (by omega))))⟩
end Go.Proofs.Ytajjjdmjlloifaa
