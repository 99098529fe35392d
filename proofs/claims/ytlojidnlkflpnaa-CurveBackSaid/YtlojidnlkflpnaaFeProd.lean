/-
  fe.product.
-/
import Derived.Test.YtlojidnlkflpnaaFeRow
import Derived.RegionTactic
import Derived.ChangeAlike
import Derived.BigRegion
namespace Go.Proofs.Ytlojidnlkflpnaa
open Go.RowKit Go.Lib

/-- two structs laid anew, each over itself -/
def twice (w : World) (g h : Nat) (a b c d p q r s : Value) : World := ((((((((w.setCell ⟨g, 0, none⟩ a).setCell ⟨g, 1, none⟩ b).setCell ⟨g, 2, none⟩ c).setCell ⟨g, 3, none⟩ d).setCell ⟨h, 0, none⟩ p).setCell ⟨h, 1, none⟩ q).setCell ⟨h, 2, none⟩ r).setCell ⟨h, 3, none⟩ s).drew
theorem two_far {w : World} {g h : Nat} {t t' : TypeId} {a b c d p q r s : Value} (k : Blk w g t #[a, b, c, d]) (_ : Blk w h t' #[p, q, r, s]) (n : g ≠ h) : Blk (twice w g h a b c d p q r s) g t #[a, b, c, d] :=
  ((((((((k.set_ 0 a).set_ 1 b).set_ 2 c).set_ 3 d).far n p).far n q).far n r).far n s).drew
theorem two_near {w : World} {g h : Nat} {t t' : TypeId} {a b c d p q r s : Value} (_ : Blk w g t #[a, b, c, d]) (k : Blk w h t' #[p, q, r, s]) (n : g ≠ h) : Blk (twice w g h a b c d p q r s) h t' #[p, q, r, s] :=
  ((((((((k.far (Ne.symm n) a).far (Ne.symm n) b).far (Ne.symm n) c).far (Ne.symm n) d).set_ 0 p).set_ 1 q).set_ 2 r).set_ 3 s).drew
theorem two_below {B : Nat} {v w : World} {g h : Nat} {a b c d p q r s : Value} (k : Below B v w) (hg : B ≤ g) (hh : B ≤ h) : Below B v (twice w g h a b c d p q r s) :=
  ((((((((k.setCell hg a).setCell hg b).setCell hg c).setCell hg d).setCell hh p).setCell hh q).setCell hh r).setCell hh s).drew

theorem row_ex (x m c : Nat) (hx : x < 115792089237316195423570985008687907853269984665640564039457584007913129639936) (hm : m < 18446744073709551616) (hc : c < 115792089237316195423570985008687907853269984665640564039457584007913129639936) : ∃ lo hi : Nat, lo < 18446744073709551616 ∧ hi < 115792089237316195423570985008687907853269984665640564039457584007913129639936 ∧ lo + 18446744073709551616 * hi = x * m + c := by
  have h : x * m ≤ 115792089237316195423570985008687907853269984665640564039457584007913129639935 * 18446744073709551615 := Nat.mul_le_mul (by omega) (by omega)
  exact ⟨(x * m + c) % 18446744073709551616, (x * m + c) / 18446744073709551616, by omega, by omega, by omega⟩

set_option maxHeartbeats 2000000 in
set_option maxRecDepth 100000 in
theorem product_at {v1 v2 : Value} (w : World) (x y lo hi : Nat) (h1 : fv x = v1) (h2 : fv y = v2) (hx : x < 115792089237316195423570985008687907853269984665640564039457584007913129639936) (hy : y < 115792089237316195423570985008687907853269984665640564039457584007913129639936) (hlo : lo < 115792089237316195423570985008687907853269984665640564039457584007913129639936) (he : lo + 115792089237316195423570985008687907853269984665640564039457584007913129639936 * hi = x * y) :
    Calls Try.prog 79 #[v1, v2] w fun e w' => e = .returned (.tuple #[fv lo, fv hi]) ∧ Below w.heap.size w w' := by
  subst h1 h2
  obtain ⟨x0, x1, x2, x3, fx⟩ := words_fv x hx
  obtain ⟨y0, y1, y2, y3, b0, b1, b2, b3, ey, fy⟩ := words_of y hy
  obtain ⟨l0, g1, m0, n1, e0⟩ := row_ex x y0 0 hx b0 (by omega)
  obtain ⟨l1, g2, m1, n2, e1⟩ := row_ex x y1 g1 hx b1 n1
  obtain ⟨l2, g3, m2, n3, e2⟩ := row_ex x y2 g2 hx b2 n2
  obtain ⟨l3, g4, m3, n4, e3⟩ := row_ex x y3 g3 hx b3 n3
  have em : x * y = x * y0 + 18446744073709551616 * (x * y1) + 340282366920938463463374607431768211456 * (x * y2) + 6277101735386680763835789423207666416102355444464034512896 * (x * y3) := by rw [ey, col_mul]
  have hL : l0 + 18446744073709551616 * l1 + 340282366920938463463374607431768211456 * l2 + 6277101735386680763835789423207666416102355444464034512896 * l3 = lo := by omega
  obtain rfl : g4 = hi := by omega
  have fl := fv_mk l0 l1 l2 l3 m0 m1 m2 m3
  rw [hL] at fl
  obtain ⟨z0, z1, z2, z3, fg⟩ := words_fv g4 n4
  have FG := Lib.hid fg
  clear fg
  have FX := Lib.hid fx
  have FL := Lib.hid fl
  have r0 := fun w => row_at w x y0 0 l0 g1 fx rfl hx b0 (by omega) m0 e0
  have r1 := fun w => row_at (v1 := fv x) (v3 := fv g1) w x y1 g1 l1 g2 rfl rfl hx b1 n1 m1 e1
  have r2 := fun w => row_at (v1 := fv x) (v3 := fv g2) w x y2 g2 l2 g3 rfl rfl hx b2 n2 m2 e2
  have r3 := fun w => row_at (v1 := fv x) (v3 := fv g3) w x y3 g3 l3 g4 rfl rfl hx b3 n3 m3 e3
  rw [fv_0] at r0
  rw [fx, fy]
  clear fx fy fl hx hy hlo he b0 b1 b2 b3 ey m0 m1 m2 m3 n1 n2 n3 n4 e0 e1 e2 e3 em hL
  go_enter Try.func79, Try.ntmps79
  go_wp2_with fail
  refine (r0 _).mono ?_
  rintro e w1 ⟨rfl, hb⟩
  have BX : Blk w1 w.heap.size 102 _ := Gr.blk hb (Blk.alloc (Blk.alloc (Blk.alloc (Blk.new w _ _) _) _) _)
  have BY : Blk w1 (w.heap.size + 1) 102 _ := Gr.blk hb (Blk.alloc (Blk.alloc (blk_new2 w _ _ _) _) _)
  have BL : Blk w1 (w.heap.size + 2) 102 #[.int .u64 0, .int .u64 0, .int .u64 0, .int .u64 0] := Gr.blk hb (Blk.alloc (blk_new3 w _ _ _ _) _)
  have BG : Blk w1 (w.heap.size + 3) 102 _ := Gr.blk hb (blk_new4 w _ _ _ _ _)
  have hB : Below w.heap.size w w1 := Below.gr ((below_alloc3 w _ _ _).alloc (by simp <;> omega) _) hb
  clear hb r0
  have hlc := BL.cell 0
  have hlf := BL.frozen 0
  simp only [List.getElem?_toArray, List.getElem?_cons_zero] at hlc
  go_wp2_with (first | ((with_reducible refine here_store ?_); refine wpList_store_blk rfl _ _ _ rfl (w.heap.size + 3) (fcs (g1)) rfl rfl _ _ (BG.far (by simp <;> omega) _) (by kernel_rfl) (by rfl) (fcs_one _) ?_; intro w2 hG0 hB0 hK0; have BX' := hK0 _ (by omega) _ _ (BX.far (by simp <;> omega) _); have BY' := hK0 _ (by omega) _ _ (BY.far (by simp <;> omega) _); have BL' : Blk w2 (w.heap.size + 2) 102 #[.int .u64 (l0 : Int), .int .u64 0, .int .u64 0, .int .u64 0] := hK0 _ (by omega) _ _ (BL.set_ 0 _); have hyc : w2.cell? ⟨w.heap.size + 1, 1, none⟩ = some (.int .u64 (y1 : Int)) := BY'.cell 1) | ((with_reducible refine here_load (d := some 16) ?_); refine wpList_load_fv rfl _ _ rfl (w.heap.size) rfl (x) _ _ _ (BX') (FX.out) Try.underlying102 rfl (by kernel_rfl) ?_) | ((with_reducible refine here_load (d := some 19) ?_); refine wpList_load_fv rfl _ _ rfl (w.heap.size + 3) rfl (g1) _ _ _ (hG0) (fv_fcs g1) Try.underlying102 rfl (by kernel_rfl) ?_))
  refine (r1 _).mono ?_
  rintro e w3 ⟨rfl, hb⟩
  have hBn : Below w.heap.size w w3 := Below.gr ((hB.setCell (by show w.heap.size ≤ w.heap.size + 1 + 1; omega) _).trans (hB0 _ (by omega))) hb
  have BXn := Gr.blk hb BX'
  have BYn := Gr.blk hb BY'
  have BLn := Gr.blk hb BL'
  have BGn := Gr.blk hb hG0
  clear hb r1 hlc hlf hyc BX BY BL BG hB BX' BY' BL' hG0 hB0 hK0
  have BX := BXn
  have BY := BYn
  have BL := BLn
  have BG := BGn
  have hB := hBn
  clear BXn BYn BLn BGn hBn
  have hlc := BL.cell 1
  have hlf := BL.frozen 1
  simp only [List.getElem?_toArray, List.getElem?_cons_zero, List.getElem?_cons_succ] at hlc
  go_wp2_with (first | ((with_reducible refine here_store ?_); refine wpList_store_blk rfl _ _ _ rfl (w.heap.size + 3) (fcs (g2)) rfl rfl _ _ (BG.far (by simp <;> omega) _) (by kernel_rfl) (by rfl) (fcs_one _) ?_; intro w4 hG1 hB1 hK1; have BX' := hK1 _ (by omega) _ _ (BX.far (by simp <;> omega) _); have BY' := hK1 _ (by omega) _ _ (BY.far (by simp <;> omega) _); have BL' : Blk w4 (w.heap.size + 2) 102 #[.int .u64 (l0 : Int), .int .u64 (l1 : Int), .int .u64 0, .int .u64 0] := hK1 _ (by omega) _ _ (BL.set_ 1 _); have hyc : w4.cell? ⟨w.heap.size + 1, 2, none⟩ = some (.int .u64 (y2 : Int)) := BY'.cell 2) | ((with_reducible refine here_load (d := some 25) ?_); refine wpList_load_fv rfl _ _ rfl (w.heap.size) rfl (x) _ _ _ (BX') (FX.out) Try.underlying102 rfl (by kernel_rfl) ?_) | ((with_reducible refine here_load (d := some 28) ?_); refine wpList_load_fv rfl _ _ rfl (w.heap.size + 3) rfl (g2) _ _ _ (hG1) (fv_fcs g2) Try.underlying102 rfl (by kernel_rfl) ?_))
  refine (r2 _).mono ?_
  rintro e w5 ⟨rfl, hb⟩
  have hBn : Below w.heap.size w w5 := Below.gr ((hB.setCell (by show w.heap.size ≤ w.heap.size + 1 + 1; omega) _).trans (hB1 _ (by omega))) hb
  have BXn := Gr.blk hb BX'
  have BYn := Gr.blk hb BY'
  have BLn := Gr.blk hb BL'
  have BGn := Gr.blk hb hG1
  clear hb r2 hlc hlf hyc BX BY BL BG hB BX' BY' BL' hG1 hB1 hK1
  have BX := BXn
  have BY := BYn
  have BL := BLn
  have BG := BGn
  have hB := hBn
  clear BXn BYn BLn BGn hBn
  have hlc := BL.cell 2
  have hlf := BL.frozen 2
  simp only [List.getElem?_toArray, List.getElem?_cons_zero, List.getElem?_cons_succ] at hlc
  go_wp2_with (first | ((with_reducible refine here_store ?_); refine wpList_store_blk rfl _ _ _ rfl (w.heap.size + 3) (fcs (g3)) rfl rfl _ _ (BG.far (by simp <;> omega) _) (by kernel_rfl) (by rfl) (fcs_one _) ?_; intro w6 hG2 hB2 hK2; have BX' := hK2 _ (by omega) _ _ (BX.far (by simp <;> omega) _); have BY' := hK2 _ (by omega) _ _ (BY.far (by simp <;> omega) _); have BL' : Blk w6 (w.heap.size + 2) 102 #[.int .u64 (l0 : Int), .int .u64 (l1 : Int), .int .u64 (l2 : Int), .int .u64 0] := hK2 _ (by omega) _ _ (BL.set_ 2 _); have hyc : w6.cell? ⟨w.heap.size + 1, 3, none⟩ = some (.int .u64 (y3 : Int)) := BY'.cell 3) | ((with_reducible refine here_load (d := some 34) ?_); refine wpList_load_fv rfl _ _ rfl (w.heap.size) rfl (x) _ _ _ (BX') (FX.out) Try.underlying102 rfl (by kernel_rfl) ?_) | ((with_reducible refine here_load (d := some 37) ?_); refine wpList_load_fv rfl _ _ rfl (w.heap.size + 3) rfl (g3) _ _ _ (hG2) (fv_fcs g3) Try.underlying102 rfl (by kernel_rfl) ?_))
  refine (r3 _).mono ?_
  rintro e w7 ⟨rfl, hb⟩
  have hBn : Below w.heap.size w w7 := Below.gr ((hB.setCell (by show w.heap.size ≤ w.heap.size + 1 + 1; omega) _).trans (hB2 _ (by omega))) hb
  have BXn := Gr.blk hb BX'
  have BYn := Gr.blk hb BY'
  have BLn := Gr.blk hb BL'
  have BGn := Gr.blk hb hG2
  clear hb r3 hlc hlf hyc BX BY BL BG hB BX' BY' BL' hG2 hB2 hK2
  have BX := BXn
  have BY := BYn
  have BL := BLn
  have BG := BGn
  have hB := hBn
  clear BXn BYn BLn BGn hBn
  have hlc := BL.cell 3
  have hlf := BL.frozen 3
  simp only [List.getElem?_toArray, List.getElem?_cons_zero, List.getElem?_cons_succ] at hlc
  go_wp2_with (first | ((with_reducible refine here_store ?_); refine wpList_store_blk rfl _ _ _ rfl (w.heap.size + 3) (fcs (g4)) rfl rfl _ _ (BG.far (by simp <;> omega) _) (by kernel_rfl) (by rfl) (fcs_one _) ?_; intro w8 hG3 hB3 hK3; have BX' := hK3 _ (by omega) _ _ (BX.far (by simp <;> omega) _); have BY' := hK3 _ (by omega) _ _ (BY.far (by simp <;> omega) _); have BL' : Blk w8 (w.heap.size + 2) 102 #[.int .u64 (l0 : Int), .int .u64 (l1 : Int), .int .u64 (l2 : Int), .int .u64 (l3 : Int)] := hK3 _ (by omega) _ _ (BL.set_ 3 _)))
  have hB8 : Below w.heap.size w w8 := (hB.setCell (by show w.heap.size ≤ w.heap.size + 1 + 1; omega) _).trans (hB3 _ (by omega))
  have BG8 : Blk w8 (w.heap.size + 3) 102 _ := hG3.eq_ (fcs_words FG.out)
  have q0 : w8.cell? ⟨w.heap.size + 1 + 1, 0, none⟩ = some (.int .u64 (l0 : Int)) := BL'.cell 0
  have q1 : w8.cell? ⟨w.heap.size + 1 + 1, 1, none⟩ = some (.int .u64 (l1 : Int)) := BL'.cell 1
  have q2 : w8.cell? ⟨w.heap.size + 1 + 1, 2, none⟩ = some (.int .u64 (l2 : Int)) := BL'.cell 2
  have q3 : w8.cell? ⟨w.heap.size + 1 + 1, 3, none⟩ = some (.int .u64 (l3 : Int)) := BL'.cell 3
  have p0 : w8.cell? ⟨w.heap.size + 1 + 1 + 1, 0, none⟩ = some (.int .u64 (z0 : Int)) := BG8.cell 0
  have p1 : w8.cell? ⟨w.heap.size + 1 + 1 + 1, 1, none⟩ = some (.int .u64 (z1 : Int)) := BG8.cell 1
  have p2 : w8.cell? ⟨w.heap.size + 1 + 1 + 1, 2, none⟩ = some (.int .u64 (z2 : Int)) := BG8.cell 2
  have p3 : w8.cell? ⟨w.heap.size + 1 + 1 + 1, 3, none⟩ = some (.int .u64 (z3 : Int)) := BG8.cell 3
  have fq : ∀ i, w8.frozen? ⟨w.heap.size + 1 + 1, i, none⟩ = false := fun i => BL'.frozen i
  have fp : ∀ i, w8.frozen? ⟨w.heap.size + 1 + 1 + 1, i, none⟩ = false := fun i => BG8.frozen i
  clear hlc hlf hK3 BX' BY' BX BY
  go_region
  all_goals
    go_wp2
    have f1 : Blk _ (w.heap.size + 2) 102 #[.int .u64 (l0 : Int), .int .u64 (l1 : Int), .int .u64 (l2 : Int), .int .u64 (l3 : Int)] := two_far BL' BG8 (by omega)
    have f2 : Blk _ (w.heap.size + 3) 102 #[.int .u64 (z0 : Int), .int .u64 (z1 : Int), .int .u64 (z2 : Int), .int .u64 (z3 : Int)] := two_near BL' BG8 (by omega)
    exact bodyPost_ret (res_two_cells rfl _ _ (w.heap.size + 2) (w.heap.size + 3) _ _ _ _ _ _ rfl f1 rfl f2 Try.underlying102 rfl (by kernel_rfl) Try.underlying102 rfl (by kernel_rfl)) rfl ⟨by rw [FL.out, FG.out], two_below hB8 (by omega) (by omega)⟩
end Go.Proofs.Ytlojidnlkflpnaa
