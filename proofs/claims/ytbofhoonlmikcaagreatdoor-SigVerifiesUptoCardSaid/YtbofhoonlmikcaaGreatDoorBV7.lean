/-
  Texts of ours, put together: ScRefN, ScFold, ScRefAdd, ScRefMul, GenM, GenR, CrvO, CrvV, ScRefs, SigR, SigK, EqB, SigAlive, ComM, ComV, SigV, SigVerifiesL.
-/
import Derived.Test.YtbofhoonlmikcaaGreatDoorBV6
set_option linter.unusedVariables false
set_option linter.unusedSimpArgs false
section
namespace Go.Proofs.YtbofhoonlmikcaaGreatDoor.Sc
open Go.RowKit Go.Lib

def modV : Value := .agg #[.int .u64 13822214165235122497, .int .u64 13451932020343611451, .int .u64 18446744073709551614, .int .u64 18446744073709551615, .int .u64 4624529908474429119, .int .u64 4994812053365940164, .int .u64 1]
theorem fv_P : fv 115792089237316195423570985008687907852837564279074904382605163141518161494337 = .agg #[.int .u64 13822214165235122497, .int .u64 13451932020343611451, .int .u64 18446744073709551614, .int .u64 18446744073709551615] := rfl

theorem refN_any (w : World) : Calls Tryz.prog 76 #[] w fun e w' => e = .returned modV ∧ Below w.heap.size w w' := by
 go_enter Tryz.func76, Tryz.ntmps76
 go_wp2
 exact bodyPost_ret (results_cell_row rfl _ _ w.heap.size _ _ (0, 0) _ rfl (heap_alloc_new w _) Tryz.underlying94 rfl (by kernel_rfl)) rfl ⟨rfl, (Below.refl _ _).alloc (Nat.le_refl _) _⟩
theorem refOf_any (w : World) (n : Nat) (hn : n < 115792089237316195423570985008687907853269984665640564039457584007913129639936) : Calls Tryz.prog 77 #[fv n] w fun e w' => e = .returned (fv n) ∧ Below w.heap.size w w' := by
 obtain ⟨a, b, c, d, fn⟩ := words_fv n hn
 rw [fn]
 clear fn
 go_enter Tryz.func77, Tryz.ntmps77
 go_wp2
 exact bodyPost_ret (results_cell_row rfl _ _ (w.heap.size + 1) _ _ (0, 0) _ rfl (heap_alloc2_new w _ _) Tryz.underlying89 rfl (by kernel_rfl)) rfl ⟨rfl, below_alloc2 w _ _⟩
theorem refSc_any (w : World) (n : Nat) (hn : n < 115792089237316195423570985008687907853269984665640564039457584007913129639936) : Calls Tryz.prog 74 #[fv n] w fun e w' => e = .returned (fv n) ∧ Below w.heap.size w w' := by
 obtain ⟨a, b, c, d, fn⟩ := words_fv n hn
 rw [fn]
 clear fn
 go_enter Tryz.func74, Tryz.ntmps74
 go_wp2
 exact bodyPost_ret (results_cell_row rfl _ _ (w.heap.size + 1) _ _ (0, 0) _ rfl (heap_alloc2_new w _ _) Tryz.underlying24 rfl (by kernel_rfl)) rfl ⟨rfl, below_alloc2 w _ _⟩

set_option maxHeartbeats 2000000 in
set_option maxRecDepth 100000 in
theorem normR_any (w : World) (x : Nat) (hx : x < 115792089237316195423570985008687907853269984665640564039457584007913129639936) : Calls Tryz.prog 89 #[modV, fv x] w fun e w' => e = .returned (fv (x % pM)) ∧ Below w.heap.size w w' := by
 obtain ⟨z, hz⟩ : ∃ z, z = x % pM := ⟨_, rfl⟩
 obtain ⟨p, hp⟩ : ∃ p, p = 115792089237316195423570985008687907852837564279074904382605163141518161494337 := ⟨_, rfl⟩
 have hpl : p < 115792089237316195423570985008687907853269984665640564039457584007913129639936 := by omega
 obtain ⟨b, hb⟩ : ∃ b, b = decide (x < p) := ⟨_, rfl⟩
 have cb : ∀ w, Calls Tryz.prog 110 #[fv x, fv p] w fun e w' => e = .returned (.bool b) ∧ Below w.heap.size w w' := by
  intro w; rw [hb]; exact below_at w x p rfl rfl hx hpl
 have t1 : b = true → z = x := fun h => by
  rw [hb] at h
  rw [hz]
  exact Nat.mod_eq_of_lt (by rw [pM_eq, ← hp]; simpa using h)
 have cm : b = false → ∀ w, Calls Tryz.prog 143 #[fv x, fv p] w fun e w' => e = .returned (fv z) ∧ Below w.heap.size w w' := fun h w => by
  rw [hb] at h
  have hle : ¬ x < p := by simpa using h
  have hzx : z + p = x := by rw [hz, red_once x hx, if_neg (by omega)]; omega
  exact minusR_at w x p z 0 rfl rfl hx hpl (by omega) (by omega)
 have hpc : fv p = .agg #[.int .u64 13822214165235122497, .int .u64 13451932020343611451, .int .u64 18446744073709551614, .int .u64 18446744073709551615] := by rw [hp]; exact fv_P
 obtain ⟨x0, x1, x2, x3, fx⟩ := words_fv x hx
 have FX := Lib.hid fx
 have FP := Lib.hid hpc
 rw [fx, ← hz]
 unfold modV
 clear fx hpc hx hz hp hpl hb
 go_enter Tryz.func89, Tryz.ntmps89
 go_wp2_with (first | ((with_reducible refine here_load (d := some 6) ?_); refine wpList_load_fv rfl _ _ rfl (w.heap.size + 1) rfl (x) _ _ _ ((blk_new2 w _ _ _).alloc _) (FX.out) Tryz.underlying89 rfl (by kernel_rfl) ?_) | ((with_reducible refine here_load (d := some 8) ?_); refine wpList_load_part rfl _ _ rfl w.heap.size rfl p [.int .u64 13822214165235122497, .int .u64 13451932020343611451, .int .u64 18446744073709551614, .int .u64 18446744073709551615] _ (mod_range (((Blk.new w _ _).alloc _).alloc _)) FP.out Tryz.underlying89 rfl (by kernel_rfl) ?_))
 refine (cb _).mono ?_
 rintro e w1 ⟨rfl, k1⟩
 have BM : Blk w1 w.heap.size 94 _ := Gr.blk k1 (((Blk.new w _ _).alloc _).alloc _)
 have BX : Blk w1 (w.heap.size + 1) 89 _ := Gr.blk k1 ((blk_new2 w _ _ _).alloc _)
 have BR : Blk w1 (w.heap.size + 2) 89 _ := Gr.blk k1 (blk_new3 w _ _ _ _)
 have hB := Below.gr (below_alloc3 w _ _ _) k1
 clear k1 cb
 cases b
 ·have cmm := cm rfl
  clear cm t1
  go_wp2_with (first | ((with_reducible refine here_load (d := some 12) ?_); refine wpList_load_fv rfl _ _ rfl (w.heap.size + 1) rfl (x) _ _ _ (BX) (FX.out) Tryz.underlying89 rfl (by kernel_rfl) ?_) | ((with_reducible refine here_load (d := some 14) ?_); refine wpList_load_part rfl _ _ rfl w.heap.size rfl p [.int .u64 13822214165235122497, .int .u64 13451932020343611451, .int .u64 18446744073709551614, .int .u64 18446744073709551615] _ (mod_range (BM)) FP.out Tryz.underlying89 rfl (by kernel_rfl) ?_))
  refine (cmm _).mono ?_
  rintro e w2 ⟨rfl, k2⟩
  have BR2 := Gr.blk k2 BR
  have hB2 := Below.gr hB k2
  clear k2 cmm
  go_wp2_with (first | ((with_reducible refine here_store ?_); refine wpList_store_blk rfl _ _ _ rfl (w.heap.size + 2) (fcs (z)) rfl rfl _ _ (BR2) (by kernel_rfl) (by rfl) (fcs_one _) ?_; intro w9 hL9 hB9 hK9))
  exact bodyPost_ret (results_cell_row rfl _ _ (w.heap.size + 2) _ _ (0, 0) _ rfl hL9 Tryz.underlying89 rfl (by kernel_rfl)) rfl ⟨rfl, hB2.trans (hB9 _ (by omega))⟩
 ·have HZX := Lib.hid (t1 rfl)
  clear t1 cm
  go_wp2_with (first | ((with_reducible refine here_load (d := some 11) ?_); refine wpList_load_fv rfl _ _ rfl (w.heap.size + 1) rfl (x) _ _ _ (BX) (FX.out) Tryz.underlying89 rfl (by kernel_rfl) ?_) | ((with_reducible refine here_store ?_); refine wpList_store_blk rfl _ _ _ rfl (w.heap.size + 2) (fcs (x)) rfl rfl _ _ (BR) (by kernel_rfl) (by rfl) (fcs_one _) ?_; intro w9 hL9 hB9 hK9))
  exact bodyPost_ret (results_cell_row rfl _ _ (w.heap.size + 2) _ _ (0, 0) _ rfl hL9 Tryz.underlying89 rfl (by kernel_rfl)) rfl ⟨by rw [HZX.out]; rfl, hB.trans (hB9 _ (by omega))⟩

set_option maxHeartbeats 2000000 in
set_option maxRecDepth 100000 in
theorem rightR_any (w : World) (x : Nat) (hx : x < 115792089237316195423570985008687907853269984665640564039457584007913129639936) : Calls Tryz.prog 55 #[modV, fv x] w fun e w' => e = .returned (.bool (decide (x < pM))) ∧ Below w.heap.size w w' := by
 obtain ⟨p, hp⟩ : ∃ p, p = 115792089237316195423570985008687907852837564279074904382605163141518161494337 := ⟨_, rfl⟩
 obtain ⟨b, hb⟩ : ∃ b, b = decide (x < pM) := ⟨_, rfl⟩
 have cb : ∀ w, Calls Tryz.prog 110 #[fv x, fv p] w fun e w' => e = .returned (.bool b) ∧ Below w.heap.size w w' := by
  intro w; rw [hb, pM_eq, ← hp]; exact below_at w x p rfl rfl hx (by omega)
 have hpc : fv p = .agg #[.int .u64 13822214165235122497, .int .u64 13451932020343611451, .int .u64 18446744073709551614, .int .u64 18446744073709551615] := by rw [hp]; exact fv_P
 obtain ⟨x0, x1, x2, x3, fx⟩ := words_fv x hx
 have FX := Lib.hid fx
 have FP := Lib.hid hpc
 rw [fx, ← hb]
 unfold modV
 clear fx hpc hx hp hb
 go_enter Tryz.func55, Tryz.ntmps55
 go_wp2_with (first | ((with_reducible refine here_load (d := some 5) ?_); refine wpList_load_fv rfl _ _ rfl (w.heap.size + 1) rfl (x) _ _ _ (blk_new2 w _ _ _) (FX.out) Tryz.underlying89 rfl (by kernel_rfl) ?_) | ((with_reducible refine here_load (d := some 7) ?_); refine wpList_load_part rfl _ _ rfl w.heap.size rfl p [.int .u64 13822214165235122497, .int .u64 13451932020343611451, .int .u64 18446744073709551614, .int .u64 18446744073709551615] _ (mod_range ((Blk.new w _ _).alloc _)) FP.out Tryz.underlying89 rfl (by kernel_rfl) ?_))
 refine (cb _).mono ?_
 rintro e w1 ⟨rfl, k1⟩
 go_wp2
 go_ret
 exact ⟨rfl, Below.gr (below_alloc2 w _ _) k1⟩
end Go.Proofs.YtbofhoonlmikcaaGreatDoor.Sc

end
section
namespace Go.Proofs.YtbofhoonlmikcaaGreatDoor.Sc
open Go.RowKit Go.Lib Go.Proofs.YtbofhoonlmikcaaGreatDoor

end Go.Proofs.YtbofhoonlmikcaaGreatDoor.Sc

end
section
namespace Go.Proofs.YtbofhoonlmikcaaGreatDoor.Sc
open Go.RowKit Go.Lib

section
variable {P : Program} {ops : Array Oper}
end

end Go.Proofs.YtbofhoonlmikcaaGreatDoor.Sc

end
section
namespace Go.Proofs.YtbofhoonlmikcaaGreatDoor.Sc
open Go.RowKit Go.Lib Go.Proofs.YtbofhoonlmikcaaGreatDoor

end Go.Proofs.YtbofhoonlmikcaaGreatDoor.Sc

end
section
namespace Go.Proofs.YtbofhoonlmikcaaGreatDoor.Cu
open Go.RowKit Go.Proofs.YtbofhoonlmikcaaGreatDoor Go.Proofs.YtbofhoonlmikcaaGreatDoor.Sy
set_option maxRecDepth 100000

end Go.Proofs.YtbofhoonlmikcaaGreatDoor.Cu

end
section
namespace Go.Proofs.YtbofhoonlmikcaaGreatDoor.Cu
open Go.RowKit Go.Proofs.YtbofhoonlmikcaaGreatDoor Go.Proofs.YtbofhoonlmikcaaGreatDoor.Sy

theorem textN_any (w : World) (nm : List UInt8) (hnm : nm.length = 32) : Calls Tryz.prog 98 #[.agg (nm.map bv).toArray] w (GetsN w (fun vq Mq => ∃ (g : Nat) (sp : List Value) (cap : Nat), vq = .slice (some ⟨g, 0, none⟩) 32 cap ∧ (32 ≤ cap ∧ cap ≤ 9223372036854775807) ∧ Mq = [(g, 5, (nm.map bv ++ sp).toArray)])) := by
 refine (Sh.textR_any w nm hnm).mono ?_
 rintro e w' ⟨g, cap, rfl, ho, hl, hb⟩
 unfold Sh.OwnB at ho
 rw [hnm] at ho
 rcases ho.2 with ⟨h0, _⟩ | ⟨g', cap', cur, hv, hg, hk, q3, q4, q5, q6⟩
 ·cases h0
 ·cases hv
  have hc : cur = (nm.map bv ++ cur.toList.drop 32).toArray := by
   rw [Nat.mul_one] at q6
   rw [← q6, List.take_append_drop]
  refine ⟨_, [(g, 5, cur)], rfl, ⟨g, cur.toList.drop 32, cap, rfl, ⟨by omega, by simp only [maxLen] at q4; omega⟩, by rw [← hc]⟩, hb, fun g1 t1 cs1 hm => ?_, by simp⟩
  simp only [List.mem_singleton, Prod.mk.injEq] at hm
  obtain ⟨rfl, rfl, rfl⟩ := hm
  exact ⟨hg, hk⟩
theorem src_own {w : World} {g : Nat} {t : TypeId} {m : List UInt8} {sp : List Value} (hb : Blk w g t (m.map bv ++ sp).toArray) : Sh.Src w (some ⟨g, 0, none⟩) m := fun _ => ⟨g, 0, rfl, hb.lt, fun j u hj => by
 rw [Nat.zero_add]
 refine (hb.cell j).trans ?_
 have hl := (List.getElem?_eq_some_iff.1 hj).1
 rw [List.getElem?_toArray, List.getElem?_append_left (by rw [List.length_map]; exact hl), List.getElem?_map, hj]
 rfl⟩
end Go.Proofs.YtbofhoonlmikcaaGreatDoor.Cu

end
section
namespace Go.Proofs.YtbofhoonlmikcaaGreatDoor.Cu
open Go.RowKit Go.Proofs.YtbofhoonlmikcaaGreatDoor Go.Proofs.YtbofhoonlmikcaaGreatDoor.Sy
set_option maxRecDepth 100000
set_option maxHeartbeats 4000000

def dblR (a : J) : J := if a.z = 0 then a else dblJ a
theorem dblR_rep {a : J} {P : Pt} (hP : Ec.On P) (h : Ec.Rep a P) : Ec.Rep (dblR a) (Ec.add finv P P) := by
 unfold dblR
 by_cases k : a.z = 0
 ·rw [if_pos k]
  rcases P with _ | ⟨X, Y⟩
  ·exact k
  ·exact absurd k h.1
 ·rw [if_neg k]; exact dblJ_rep hP h
def hR (a : J) (x : Fp) : Fp := x * (a.z * a.z) - a.x
def rR (a : J) (y : Fp) : Fp := y * (a.z * a.z * a.z) - a.y
def pxR (a : J) (x y : Fp) : Fp := rR a y * rR a y - hR a x * hR a x * hR a x - (a.x * (hR a x * hR a x) + a.x * (hR a x * hR a x))
def pyR (a : J) (x y : Fp) : Fp := rR a y * (a.x * (hR a x * hR a x) - pxR a x y) - a.y * (hR a x * hR a x * hR a x)
def plusR (a : J) (x y : Fp) : J := if a.z = 0 then ⟨x, y, 1⟩ else if x * (a.z * a.z) = a.x then (if y * (a.z * a.z * a.z) = a.y then dblR a else ⟨0, 0, 0⟩) else ⟨pxR a x y, pyR a x y, a.z * hR a x⟩
theorem plusR_rep {a : J} {P : Pt} {x y : Fp} (hP : Ec.On P) (hQ : y * y = x * x * x + 7) (h : Ec.Rep a P) : Ec.Rep (plusR a x y) (Ec.add finv P (some (x, y))) := by
 rcases P with _ | ⟨X, Y⟩
 ·unfold plusR
  rw [if_pos (show a.z = 0 from h), Ec.zero_add]
  exact threeJ_rep (some (x, y))
 obtain ⟨h0, h1, h2⟩ := h
 unfold plusR
 rw [if_neg h0]
 have hZZ := fld.ne_mul h0 h0
 have hZZZ := fld.ne_mul hZZ h0
 by_cases e1 : x * (a.z * a.z) = a.x
 ·rw [if_pos e1]
  have ex : x = X := fld.cancel hZZ (by rw [h1] at e1; clear h1 h2 hP hQ; grobner)
  subst ex
  by_cases e2 : y * (a.z * a.z * a.z) = a.y
  ·rw [if_pos e2]
   have ey : y = Y := fld.cancel hZZZ (by rw [h2] at e2; clear h1 h2 hP hQ e1; grobner)
   subst ey
   exact dblR_rep hP ⟨h0, h1, h2⟩
  ·rw [if_neg e2]
   have hne : Y ≠ y := fun q => e2 (by rw [← q, h2])
   have hs : Y + y = 0 := Classical.byContradiction fun t => Ec.off fld hP hQ (fun q => hne q.2) (fun q => t q.2) rfl
   have ea : Ec.add finv (some (x, Y)) (some (x, y)) = none := if_pos ⟨rfl, hs⟩
   rw [ea]
   rfl
 ·rw [if_neg e1]
  exact Ec.ad fld (Z := a.z) (u := a.x) (v := a.y) (c := hR a x) (r := rR a y) hP hQ h0 h1 h2 rfl rfl (fun q => e1 (by have := q.1; unfold hR at this; clear q h1 h2 hP hQ; grobner)) rfl rfl rfl
theorem plusR_1 {a : J} {x y : Fp} (h : a.z = 0) : plusR a x y = ⟨x, y, 1⟩ := if_pos h
theorem plusR_2 {a : J} {x y : Fp} (h : a.z ≠ 0) (k : x * (a.z * a.z) = a.x) (m : y * (a.z * a.z * a.z) = a.y) : plusR a x y = dblR a := by unfold plusR; rw [if_neg h, if_pos k, if_pos m]
theorem plusR_3 {a : J} {x y : Fp} (h : a.z ≠ 0) (k : x * (a.z * a.z) = a.x) (m : y * (a.z * a.z * a.z) ≠ a.y) : plusR a x y = ⟨0, 0, 0⟩ := by unfold plusR; rw [if_neg h, if_pos k, if_neg m]
theorem plusR_4 {a : J} {x y : Fp} (h : a.z ≠ 0) (k : x * (a.z * a.z) ≠ a.x) : plusR a x y = ⟨pxR a x y, pyR a x y, a.z * hR a x⟩ := by unfold plusR; rw [if_neg h, if_neg k]
theorem twiceR_c (w : World) (a : J) : Calls Tryz.prog 91 #[tv a.x.val a.y.val a.z.val] w (Gets w (tv (dblR a).x.val (dblR a).y.val (dblR a).z.val)) := by
 refine Sy.enter (args := [tv a.x.val a.y.val a.z.val]) Tryz.func91 rfl kL ?_
 refine sC ?_
 refine sM 127 (tcs a.x.val a.y.val a.z.val) (fun g0 => ?_)
 refine sM 127 (tcs 0 0 0) (fun g1 => ?_)
 refine sG <| Sy.seq <| sC ?_
 refine sP (.pointer (some ⟨g0, 8, none⟩)) <| sS (fv a.z.val) (qL 0 g0 8 4 127 89 (tcs a.x.val a.y.val a.z.val) rfl Tryz.underlying89) <| sP (fv 0) ?_
 obtain ⟨b1, hb1⟩ : ∃ z : Bool, z = decide (a.z.val = 0) := ⟨_, rfl⟩
 refine sS (.bool b1) (Quiet.pure (fun w => by rw [hb1]; exact eql_num w _ _ _ _ _ _ rfl rfl rfl lK lK)) ?_
 refine sG ?_
 cases b1
 ·have eb1 : a.z ≠ (0 : Fp) := fun e => of_decide_eq_false hb1.symm (congrArg Fin.val e)
  refine sU <| Sy.skip <| sB ?_
  refine sP (.pointer (some ⟨g0, 0, none⟩)) <| sS (fv a.x.val) (qL 0 g0 0 4 127 89 (tcs a.x.val a.y.val a.z.val) rfl Tryz.underlying89) <| sP (.pointer (some ⟨g0, 0, none⟩)) <| sS (fv a.x.val) (qL 0 g0 0 4 127 89 (tcs a.x.val a.y.val a.z.val) rfl Tryz.underlying89) ?_
  obtain ⟨z1, hz1⟩ : ∃ z : Fp, z = a.x * a.x := ⟨_, rfl⟩
  refine sS (fv z1.val) (qF 94 #[fv a.x.val, fv a.x.val] (fun w => by rw [hz1]; exact mulR_c w a.x a.x)) ?_
  refine sM 89 (fcs 0) (fun g2 => ?_)
  refine sW 2 g2 89 (fcs 0) (fcs z1.val) (wS 0 89 (fcs z1.val) rfl) ?_
  refine sA ?_
  refine sP (.pointer (some ⟨g0, 4, none⟩)) <| sS (fv a.y.val) (qL 0 g0 4 4 127 89 (tcs a.x.val a.y.val a.z.val) rfl Tryz.underlying89) <| sP (.pointer (some ⟨g0, 4, none⟩)) <| sS (fv a.y.val) (qL 0 g0 4 4 127 89 (tcs a.x.val a.y.val a.z.val) rfl Tryz.underlying89) ?_
  obtain ⟨z2, hz2⟩ : ∃ z : Fp, z = a.y * a.y := ⟨_, rfl⟩
  refine sS (fv z2.val) (qF 94 #[fv a.y.val, fv a.y.val] (fun w => by rw [hz2]; exact mulR_c w a.y a.y)) ?_
  refine sM 89 (fcs 0) (fun g3 => ?_)
  refine sW 3 g3 89 (fcs 0) (fcs z2.val) (wS 0 89 (fcs z2.val) rfl) ?_
  refine sA ?_
  refine sS (fv z2.val) (qL 3 g3 0 4 89 89 (fcs z2.val) rfl Tryz.underlying89) <| sS (fv z2.val) (qL 3 g3 0 4 89 89 (fcs z2.val) rfl Tryz.underlying89) ?_
  obtain ⟨z3, hz3⟩ : ∃ z : Fp, z = z2 * z2 := ⟨_, rfl⟩
  refine sS (fv z3.val) (qF 94 #[fv z2.val, fv z2.val] (fun w => by rw [hz3]; exact mulR_c w z2 z2)) ?_
  refine sM 89 (fcs 0) (fun g4 => ?_)
  refine sW 4 g4 89 (fcs 0) (fcs z3.val) (wS 0 89 (fcs z3.val) rfl) ?_
  refine sA ?_
  refine sP (.pointer (some ⟨g0, 0, none⟩)) <| sS (fv a.x.val) (qL 0 g0 0 4 127 89 (tcs a.x.val a.y.val a.z.val) rfl Tryz.underlying89) <| sS (fv z2.val) (qL 3 g3 0 4 89 89 (fcs z2.val) rfl Tryz.underlying89) ?_
  obtain ⟨z4, hz4⟩ : ∃ z : Fp, z = a.x * z2 := ⟨_, rfl⟩
  refine sS (fv z4.val) (qF 94 #[fv a.x.val, fv z2.val] (fun w => by rw [hz4]; exact mulR_c w a.x z2)) ?_
  refine sM 89 (fcs 0) (fun g5 => ?_)
  refine sW 5 g5 89 (fcs 0) (fcs z4.val) (wS 0 89 (fcs z4.val) rfl) ?_
  refine sH (fun j => j == 7) ?_
  refine sD 0 rfl (fv z4.val) (qL 5 g5 0 4 89 89 (fcs z4.val) rfl Tryz.underlying89) <| sD 1 rfl (fv z4.val) (qL 5 g5 0 4 89 89 (fcs z4.val) rfl Tryz.underlying89) ?_
  obtain ⟨z5, hz5⟩ : ∃ z : Fp, z = z4 + z4 := ⟨_, rfl⟩
  refine sD 2 rfl (fv z5.val) (qF 112 #[fv z4.val, fv z4.val] (fun w => by rw [hz5]; exact addR_c w z4 z4)) <| sD 3 rfl (fv z4.val) (qL 5 g5 0 4 89 89 (fcs z4.val) rfl Tryz.underlying89) <| sD 4 rfl (fv z4.val) (qL 5 g5 0 4 89 89 (fcs z4.val) rfl Tryz.underlying89) ?_
  obtain ⟨z6, hz6⟩ : ∃ z : Fp, z = z4 + z4 := ⟨_, rfl⟩
  refine sD 5 rfl (fv z6.val) (qF 112 #[fv z4.val, fv z4.val] (fun w => by rw [hz6]; exact addR_c w z4 z4)) ?_
  obtain ⟨z7, hz7⟩ : ∃ z : Fp, z = z5 + z6 := ⟨_, rfl⟩
  refine sD 6 rfl (fv z7.val) (qF 112 #[fv z5.val, fv z6.val] (fun w => by rw [hz7]; exact addR_c w z5 z6)) <| sX 7 rfl 5 g5 89 (fcs z4.val) (fcs z7.val) (wS 0 89 (fcs z7.val) rfl) ?_
  refine sE ?_
  refine sR (fun j => j == 6) ?_
  refine sD 0 rfl (fv z1.val) (qL 2 g2 0 4 89 89 (fcs z1.val) rfl Tryz.underlying89) <| sD 1 rfl (fv z1.val) (qL 2 g2 0 4 89 89 (fcs z1.val) rfl Tryz.underlying89) <| sD 2 rfl (fv z1.val) (qL 2 g2 0 4 89 89 (fcs z1.val) rfl Tryz.underlying89) ?_
  obtain ⟨z8, hz8⟩ : ∃ z : Fp, z = z1 + z1 := ⟨_, rfl⟩
  refine sD 3 rfl (fv z8.val) (qF 112 #[fv z1.val, fv z1.val] (fun w => by rw [hz8]; exact addR_c w z1 z1)) ?_
  obtain ⟨z9, hz9⟩ : ∃ z : Fp, z = z1 + z8 := ⟨_, rfl⟩
  refine sD 4 rfl (fv z9.val) (qF 112 #[fv z1.val, fv z8.val] (fun w => by rw [hz9]; exact addR_c w z1 z8)) ?_
  refine sO 5 rfl 89 (fcs 0) (fun g6 => ?_)
  refine sX 6 rfl 6 g6 89 (fcs 0) (fcs z9.val) (wS 0 89 (fcs z9.val) rfl) ?_
  refine sE ?_
  refine sR (fun j => j == 8) ?_
  refine sD 0 rfl (fv z9.val) (qL 6 g6 0 4 89 89 (fcs z9.val) rfl Tryz.underlying89) <| sD 1 rfl (fv z9.val) (qL 6 g6 0 4 89 89 (fcs z9.val) rfl Tryz.underlying89) ?_
  obtain ⟨z10, hz10⟩ : ∃ z : Fp, z = z9 * z9 := ⟨_, rfl⟩
  refine sD 2 rfl (fv z10.val) (qF 94 #[fv z9.val, fv z9.val] (fun w => by rw [hz10]; exact mulR_c w z9 z9)) <| sD 3 rfl (fv z7.val) (qL 5 g5 0 4 89 89 (fcs z7.val) rfl Tryz.underlying89) <| sD 4 rfl (fv z7.val) (qL 5 g5 0 4 89 89 (fcs z7.val) rfl Tryz.underlying89) ?_
  obtain ⟨z11, hz11⟩ : ∃ z : Fp, z = z7 + z7 := ⟨_, rfl⟩
  refine sD 5 rfl (fv z11.val) (qF 112 #[fv z7.val, fv z7.val] (fun w => by rw [hz11]; exact addR_c w z7 z7)) ?_
  obtain ⟨z12, hz12⟩ : ∃ z : Fp, z = z10 - z11 := ⟨_, rfl⟩
  refine sD 6 rfl (fv z12.val) (qF 111 #[fv z10.val, fv z11.val] (fun w => by rw [hz12]; exact subR_c w z10 z11)) ?_
  refine sO 7 rfl 89 (fcs 0) (fun g7 => ?_)
  refine sX 8 rfl 7 g7 89 (fcs 0) (fcs z12.val) (wS 0 89 (fcs z12.val) rfl) ?_
  refine sE ?_
  refine sB ?_
  refine sS (fv z3.val) (qL 4 g4 0 4 89 89 (fcs z3.val) rfl Tryz.underlying89) <| sS (fv z3.val) (qL 4 g4 0 4 89 89 (fcs z3.val) rfl Tryz.underlying89) ?_
  obtain ⟨z13, hz13⟩ : ∃ z : Fp, z = z3 + z3 := ⟨_, rfl⟩
  refine sS (fv z13.val) (qF 112 #[fv z3.val, fv z3.val] (fun w => by rw [hz13]; exact addR_c w z3 z3)) <| sW 4 g4 89 (fcs z3.val) (fcs z13.val) (wS 0 89 (fcs z13.val) rfl) ?_
  refine sA ?_
  refine sS (fv z13.val) (qL 4 g4 0 4 89 89 (fcs z13.val) rfl Tryz.underlying89) <| sS (fv z13.val) (qL 4 g4 0 4 89 89 (fcs z13.val) rfl Tryz.underlying89) ?_
  obtain ⟨z14, hz14⟩ : ∃ z : Fp, z = z13 + z13 := ⟨_, rfl⟩
  refine sS (fv z14.val) (qF 112 #[fv z13.val, fv z13.val] (fun w => by rw [hz14]; exact addR_c w z13 z13)) <| sW 4 g4 89 (fcs z13.val) (fcs z14.val) (wS 0 89 (fcs z14.val) rfl) ?_
  refine sA ?_
  refine sS (fv z14.val) (qL 4 g4 0 4 89 89 (fcs z14.val) rfl Tryz.underlying89) <| sS (fv z14.val) (qL 4 g4 0 4 89 89 (fcs z14.val) rfl Tryz.underlying89) ?_
  obtain ⟨z15, hz15⟩ : ∃ z : Fp, z = z14 + z14 := ⟨_, rfl⟩
  refine sS (fv z15.val) (qF 112 #[fv z14.val, fv z14.val] (fun w => by rw [hz15]; exact addR_c w z14 z14)) <| sW 4 g4 89 (fcs z14.val) (fcs z15.val) (wS 0 89 (fcs z15.val) rfl) ?_
  refine sH (fun j => j == 8) ?_
  refine sD 0 rfl (fv z9.val) (qL 6 g6 0 4 89 89 (fcs z9.val) rfl Tryz.underlying89) <| sD 1 rfl (fv z7.val) (qL 5 g5 0 4 89 89 (fcs z7.val) rfl Tryz.underlying89) <| sD 2 rfl (fv z12.val) (qL 7 g7 0 4 89 89 (fcs z12.val) rfl Tryz.underlying89) ?_
  obtain ⟨z16, hz16⟩ : ∃ z : Fp, z = z7 - z12 := ⟨_, rfl⟩
  refine sD 3 rfl (fv z16.val) (qF 111 #[fv z7.val, fv z12.val] (fun w => by rw [hz16]; exact subR_c w z7 z12)) ?_
  obtain ⟨z17, hz17⟩ : ∃ z : Fp, z = z9 * z16 := ⟨_, rfl⟩
  refine sD 4 rfl (fv z17.val) (qF 94 #[fv z9.val, fv z16.val] (fun w => by rw [hz17]; exact mulR_c w z9 z16)) <| sD 5 rfl (fv z15.val) (qL 4 g4 0 4 89 89 (fcs z15.val) rfl Tryz.underlying89) ?_
  obtain ⟨z18, hz18⟩ : ∃ z : Fp, z = z17 - z15 := ⟨_, rfl⟩
  refine sD 6 rfl (fv z18.val) (qF 111 #[fv z17.val, fv z15.val] (fun w => by rw [hz18]; exact subR_c w z17 z15)) ?_
  refine sO 7 rfl 89 (fcs 0) (fun g8 => ?_)
  refine sX 8 rfl 8 g8 89 (fcs 0) (fcs z18.val) (wS 0 89 (fcs z18.val) rfl) ?_
  refine sE ?_
  refine sB ?_
  refine sP (.pointer (some ⟨g0, 4, none⟩)) <| sS (fv a.y.val) (qL 0 g0 4 4 127 89 (tcs a.x.val a.y.val a.z.val) rfl Tryz.underlying89) <| sP (.pointer (some ⟨g0, 8, none⟩)) <| sS (fv a.z.val) (qL 0 g0 8 4 127 89 (tcs a.x.val a.y.val a.z.val) rfl Tryz.underlying89) ?_
  obtain ⟨z19, hz19⟩ : ∃ z : Fp, z = a.y * a.z := ⟨_, rfl⟩
  refine sS (fv z19.val) (qF 94 #[fv a.y.val, fv a.z.val] (fun w => by rw [hz19]; exact mulR_c w a.y a.z)) ?_
  refine sM 89 (fcs 0) (fun g9 => ?_)
  refine sW 9 g9 89 (fcs 0) (fcs z19.val) (wS 0 89 (fcs z19.val) rfl) ?_
  refine sH (fun j => j == 6) ?_
  refine sD 0 rfl (fv z12.val) (qL 7 g7 0 4 89 89 (fcs z12.val) rfl Tryz.underlying89) <| sD 1 rfl (fv z18.val) (qL 8 g8 0 4 89 89 (fcs z18.val) rfl Tryz.underlying89) <| sD 2 rfl (fv z19.val) (qL 9 g9 0 4 89 89 (fcs z19.val) rfl Tryz.underlying89) <| sD 3 rfl (fv z19.val) (qL 9 g9 0 4 89 89 (fcs z19.val) rfl Tryz.underlying89) ?_
  obtain ⟨z20, hz20⟩ : ∃ z : Fp, z = z19 + z19 := ⟨_, rfl⟩
  refine sD 4 rfl (fv z20.val) (qF 112 #[fv z19.val, fv z19.val] (fun w => by rw [hz20]; exact addR_c w z19 z19)) <| sZ 5 rfl (tv z12.val z18.val z20.val) <| sX 6 rfl 1 g1 127 (tcs 0 0 0) (tcs z12.val z18.val z20.val) (wS 0 127 (tcs z12.val z18.val z20.val) rfl) ?_
  refine sI ?_
  refine Sy.ret ?_
  rw [show (tv (dblR a).x.val (dblR a).y.val (dblR a).z.val : Value) = tv z12.val z18.val z20.val from by
   unfold dblR; rw [if_neg eb1]
   have k0 : (dblJ a).x = z12 := by
    simp only [dblJ, pxR, pyR, hR, rR]
    simp only [hz12, hz11, hz10, hz9, hz8, hz7, hz6, hz5, hz4, hz2, hz1]
    grobner
   have k1 : (dblJ a).y = z18 := by
    simp only [dblJ, pxR, pyR, hR, rR]
    simp only [hz18, hz17, hz16, hz15, hz14, hz13, hz12, hz11, hz10, hz9, hz8, hz7, hz6, hz5, hz4, hz3, hz2, hz1]
    grobner
   have k2 : (dblJ a).z = z20 := by
    simp only [dblJ, pxR, pyR, hR, rR]
    simp only [hz20, hz19]
    grobner
   simp only [k0, k1, k2]]
  exact rC (v := tv z12.val z18.val z20.val) 127 g1 1 (tcs z12.val z18.val z20.val) rfl Tryz.underlying127
 ·have eb1 : a.z = (0 : Fp) := Fin.ext (of_decide_eq_true hb1.symm)
  refine sT <| sC ?_
  refine sS (tv a.x.val a.y.val a.z.val) (qL 0 g0 0 12 127 127 (tcs a.x.val a.y.val a.z.val) rfl Tryz.underlying127) <| sW 1 g1 127 (tcs 0 0 0) (tcs a.x.val a.y.val a.z.val) (wS 0 127 (tcs a.x.val a.y.val a.z.val) rfl) ?_
  refine sG <| Sy.ret <| Sy.then_ret ?_
  rw [show (tv (dblR a).x.val (dblR a).y.val (dblR a).z.val : Value) = tv a.x.val a.y.val a.z.val from by unfold dblR; rw [if_pos eb1]]
  exact rC (v := tv a.x.val a.y.val a.z.val) 127 g1 1 (tcs a.x.val a.y.val a.z.val) rfl Tryz.underlying127
theorem plusR_c (w : World) (a : J) (x y : Fp) : Calls Tryz.prog 92 #[tv a.x.val a.y.val a.z.val, fv x.val, fv y.val] w (Gets w (tv (plusR a x y).x.val (plusR a x y).y.val (plusR a x y).z.val)) := by
 refine Sy.enter (args := [tv a.x.val a.y.val a.z.val, fv x.val, fv y.val]) Tryz.func92 rfl kL ?_
 refine sC ?_
 refine sM 127 (tcs a.x.val a.y.val a.z.val) (fun g0 => ?_)
 refine sM 89 (fcs x.val) (fun g1 => ?_)
 refine sM 89 (fcs y.val) (fun g2 => ?_)
 refine sM 127 (tcs 0 0 0) (fun g3 => ?_)
 refine sG <| Sy.seq <| sC ?_
 refine sP (.pointer (some ⟨g0, 8, none⟩)) <| sS (fv a.z.val) (qL 0 g0 8 4 127 89 (tcs a.x.val a.y.val a.z.val) rfl Tryz.underlying89) <| sP (fv 0) ?_
 obtain ⟨b1, hb1⟩ : ∃ z : Bool, z = decide (a.z.val = 0) := ⟨_, rfl⟩
 refine sS (.bool b1) (Quiet.pure (fun w => by rw [hb1]; exact eql_num w _ _ _ _ _ _ rfl rfl rfl lK lK)) ?_
 refine sG ?_
 cases b1
 ·have eb1 : a.z ≠ (0 : Fp) := fun e => of_decide_eq_false hb1.symm (congrArg Fin.val e)
  refine sU <| Sy.skip <| sB ?_
  refine sP (.pointer (some ⟨g0, 8, none⟩)) <| sS (fv a.z.val) (qL 0 g0 8 4 127 89 (tcs a.x.val a.y.val a.z.val) rfl Tryz.underlying89) <| sP (.pointer (some ⟨g0, 8, none⟩)) <| sS (fv a.z.val) (qL 0 g0 8 4 127 89 (tcs a.x.val a.y.val a.z.val) rfl Tryz.underlying89) ?_
  obtain ⟨z1, hz1⟩ : ∃ z : Fp, z = a.z * a.z := ⟨_, rfl⟩
  refine sS (fv z1.val) (qF 94 #[fv a.z.val, fv a.z.val] (fun w => by rw [hz1]; exact mulR_c w a.z a.z)) ?_
  refine sM 89 (fcs 0) (fun g4 => ?_)
  refine sW 4 g4 89 (fcs 0) (fcs z1.val) (wS 0 89 (fcs z1.val) rfl) ?_
  refine sA ?_
  refine sS (fv x.val) (qL 1 g1 0 4 89 89 (fcs x.val) rfl Tryz.underlying89) <| sS (fv z1.val) (qL 4 g4 0 4 89 89 (fcs z1.val) rfl Tryz.underlying89) ?_
  obtain ⟨z2, hz2⟩ : ∃ z : Fp, z = x * z1 := ⟨_, rfl⟩
  refine sS (fv z2.val) (qF 94 #[fv x.val, fv z1.val] (fun w => by rw [hz2]; exact mulR_c w x z1)) ?_
  refine sM 89 (fcs 0) (fun g5 => ?_)
  refine sW 5 g5 89 (fcs 0) (fcs z2.val) (wS 0 89 (fcs z2.val) rfl) ?_
  refine sH (fun j => j == 7) ?_
  refine sD 0 rfl (fv y.val) (qL 2 g2 0 4 89 89 (fcs y.val) rfl Tryz.underlying89) <| sD 1 rfl (fv z1.val) (qL 4 g4 0 4 89 89 (fcs z1.val) rfl Tryz.underlying89) <| sZ 2 rfl (.pointer (some ⟨g0, 8, none⟩)) <| sD 3 rfl (fv a.z.val) (qL 0 g0 8 4 127 89 (tcs a.x.val a.y.val a.z.val) rfl Tryz.underlying89) ?_
  obtain ⟨z3, hz3⟩ : ∃ z : Fp, z = z1 * a.z := ⟨_, rfl⟩
  refine sD 4 rfl (fv z3.val) (qF 94 #[fv z1.val, fv a.z.val] (fun w => by rw [hz3]; exact mulR_c w z1 a.z)) ?_
  obtain ⟨z4, hz4⟩ : ∃ z : Fp, z = y * z3 := ⟨_, rfl⟩
  refine sD 5 rfl (fv z4.val) (qF 94 #[fv y.val, fv z3.val] (fun w => by rw [hz4]; exact mulR_c w y z3)) ?_
  refine sO 6 rfl 89 (fcs 0) (fun g6 => ?_)
  refine sX 7 rfl 6 g6 89 (fcs 0) (fcs z4.val) (wS 0 89 (fcs z4.val) rfl) ?_
  refine sI ?_
  refine Sy.seq <| sC ?_
  refine sS (fv z2.val) (qL 5 g5 0 4 89 89 (fcs z2.val) rfl Tryz.underlying89) <| sP (.pointer (some ⟨g0, 0, none⟩)) <| sS (fv a.x.val) (qL 0 g0 0 4 127 89 (tcs a.x.val a.y.val a.z.val) rfl Tryz.underlying89) ?_
  obtain ⟨b2, hb2⟩ : ∃ z : Bool, z = decide (z2.val = a.x.val) := ⟨_, rfl⟩
  refine sS (.bool b2) (Quiet.pure (fun w => by rw [hb2]; exact eql_num w _ _ _ _ _ _ rfl rfl rfl lK lK)) ?_
  refine sG ?_
  cases b2
  ·have eb2 : z2 ≠ a.x := fun e => of_decide_eq_false hb2.symm (congrArg Fin.val e)
   refine sU <| Sy.skip <| sB ?_
   refine sS (fv z2.val) (qL 5 g5 0 4 89 89 (fcs z2.val) rfl Tryz.underlying89) <| sP (.pointer (some ⟨g0, 0, none⟩)) <| sS (fv a.x.val) (qL 0 g0 0 4 127 89 (tcs a.x.val a.y.val a.z.val) rfl Tryz.underlying89) ?_
   obtain ⟨z5, hz5⟩ : ∃ z : Fp, z = z2 - a.x := ⟨_, rfl⟩
   refine sS (fv z5.val) (qF 111 #[fv z2.val, fv a.x.val] (fun w => by rw [hz5]; exact subR_c w z2 a.x)) ?_
   refine sM 89 (fcs 0) (fun g7 => ?_)
   refine sW 7 g7 89 (fcs 0) (fcs z5.val) (wS 0 89 (fcs z5.val) rfl) ?_
   refine sA ?_
   refine sS (fv z4.val) (qL 6 g6 0 4 89 89 (fcs z4.val) rfl Tryz.underlying89) <| sP (.pointer (some ⟨g0, 4, none⟩)) <| sS (fv a.y.val) (qL 0 g0 4 4 127 89 (tcs a.x.val a.y.val a.z.val) rfl Tryz.underlying89) ?_
   obtain ⟨z6, hz6⟩ : ∃ z : Fp, z = z4 - a.y := ⟨_, rfl⟩
   refine sS (fv z6.val) (qF 111 #[fv z4.val, fv a.y.val] (fun w => by rw [hz6]; exact subR_c w z4 a.y)) ?_
   refine sM 89 (fcs 0) (fun g8 => ?_)
   refine sW 8 g8 89 (fcs 0) (fcs z6.val) (wS 0 89 (fcs z6.val) rfl) ?_
   refine sA ?_
   refine sS (fv z5.val) (qL 7 g7 0 4 89 89 (fcs z5.val) rfl Tryz.underlying89) <| sS (fv z5.val) (qL 7 g7 0 4 89 89 (fcs z5.val) rfl Tryz.underlying89) ?_
   obtain ⟨z7, hz7⟩ : ∃ z : Fp, z = z5 * z5 := ⟨_, rfl⟩
   refine sS (fv z7.val) (qF 94 #[fv z5.val, fv z5.val] (fun w => by rw [hz7]; exact mulR_c w z5 z5)) ?_
   refine sM 89 (fcs 0) (fun g9 => ?_)
   refine sW 9 g9 89 (fcs 0) (fcs z7.val) (wS 0 89 (fcs z7.val) rfl) ?_
   refine sA ?_
   refine sS (fv z5.val) (qL 7 g7 0 4 89 89 (fcs z5.val) rfl Tryz.underlying89) <| sS (fv z7.val) (qL 9 g9 0 4 89 89 (fcs z7.val) rfl Tryz.underlying89) ?_
   obtain ⟨z8, hz8⟩ : ∃ z : Fp, z = z5 * z7 := ⟨_, rfl⟩
   refine sS (fv z8.val) (qF 94 #[fv z5.val, fv z7.val] (fun w => by rw [hz8]; exact mulR_c w z5 z7)) ?_
   refine sM 89 (fcs 0) (fun g10 => ?_)
   refine sW 10 g10 89 (fcs 0) (fcs z8.val) (wS 0 89 (fcs z8.val) rfl) ?_
   refine sA ?_
   refine sP (.pointer (some ⟨g0, 0, none⟩)) <| sS (fv a.x.val) (qL 0 g0 0 4 127 89 (tcs a.x.val a.y.val a.z.val) rfl Tryz.underlying89) <| sS (fv z7.val) (qL 9 g9 0 4 89 89 (fcs z7.val) rfl Tryz.underlying89) ?_
   obtain ⟨z9, hz9⟩ : ∃ z : Fp, z = a.x * z7 := ⟨_, rfl⟩
   refine sS (fv z9.val) (qF 94 #[fv a.x.val, fv z7.val] (fun w => by rw [hz9]; exact mulR_c w a.x z7)) ?_
   refine sM 89 (fcs 0) (fun g11 => ?_)
   refine sW 11 g11 89 (fcs 0) (fcs z9.val) (wS 0 89 (fcs z9.val) rfl) ?_
   refine sH (fun j => j == 10) ?_
   refine sD 0 rfl (fv z6.val) (qL 8 g8 0 4 89 89 (fcs z6.val) rfl Tryz.underlying89) <| sD 1 rfl (fv z6.val) (qL 8 g8 0 4 89 89 (fcs z6.val) rfl Tryz.underlying89) ?_
   obtain ⟨z10, hz10⟩ : ∃ z : Fp, z = z6 * z6 := ⟨_, rfl⟩
   refine sD 2 rfl (fv z10.val) (qF 94 #[fv z6.val, fv z6.val] (fun w => by rw [hz10]; exact mulR_c w z6 z6)) <| sD 3 rfl (fv z8.val) (qL 10 g10 0 4 89 89 (fcs z8.val) rfl Tryz.underlying89) ?_
   obtain ⟨z11, hz11⟩ : ∃ z : Fp, z = z10 - z8 := ⟨_, rfl⟩
   refine sD 4 rfl (fv z11.val) (qF 111 #[fv z10.val, fv z8.val] (fun w => by rw [hz11]; exact subR_c w z10 z8)) <| sD 5 rfl (fv z9.val) (qL 11 g11 0 4 89 89 (fcs z9.val) rfl Tryz.underlying89) <| sD 6 rfl (fv z9.val) (qL 11 g11 0 4 89 89 (fcs z9.val) rfl Tryz.underlying89) ?_
   obtain ⟨z12, hz12⟩ : ∃ z : Fp, z = z9 + z9 := ⟨_, rfl⟩
   refine sD 7 rfl (fv z12.val) (qF 112 #[fv z9.val, fv z9.val] (fun w => by rw [hz12]; exact addR_c w z9 z9)) ?_
   obtain ⟨z13, hz13⟩ : ∃ z : Fp, z = z11 - z12 := ⟨_, rfl⟩
   refine sD 8 rfl (fv z13.val) (qF 111 #[fv z11.val, fv z12.val] (fun w => by rw [hz13]; exact subR_c w z11 z12)) ?_
   refine sO 9 rfl 89 (fcs 0) (fun g12 => ?_)
   refine sX 10 rfl 12 g12 89 (fcs 0) (fcs z13.val) (wS 0 89 (fcs z13.val) rfl) ?_
   refine sE ?_
   refine sR (fun j => j == 16) ?_
   refine sD 0 rfl (fv z13.val) (qL 12 g12 0 4 89 89 (fcs z13.val) rfl Tryz.underlying89) <| sD 1 rfl (fv z6.val) (qL 8 g8 0 4 89 89 (fcs z6.val) rfl Tryz.underlying89) <| sD 2 rfl (fv z9.val) (qL 11 g11 0 4 89 89 (fcs z9.val) rfl Tryz.underlying89) <| sD 3 rfl (fv z13.val) (qL 12 g12 0 4 89 89 (fcs z13.val) rfl Tryz.underlying89) ?_
   obtain ⟨z14, hz14⟩ : ∃ z : Fp, z = z9 - z13 := ⟨_, rfl⟩
   refine sD 4 rfl (fv z14.val) (qF 111 #[fv z9.val, fv z13.val] (fun w => by rw [hz14]; exact subR_c w z9 z13)) ?_
   obtain ⟨z15, hz15⟩ : ∃ z : Fp, z = z6 * z14 := ⟨_, rfl⟩
   refine sD 5 rfl (fv z15.val) (qF 94 #[fv z6.val, fv z14.val] (fun w => by rw [hz15]; exact mulR_c w z6 z14)) <| sZ 6 rfl (.pointer (some ⟨g0, 4, none⟩)) <| sD 7 rfl (fv a.y.val) (qL 0 g0 4 4 127 89 (tcs a.x.val a.y.val a.z.val) rfl Tryz.underlying89) <| sD 8 rfl (fv z8.val) (qL 10 g10 0 4 89 89 (fcs z8.val) rfl Tryz.underlying89) ?_
   obtain ⟨z16, hz16⟩ : ∃ z : Fp, z = a.y * z8 := ⟨_, rfl⟩
   refine sD 9 rfl (fv z16.val) (qF 94 #[fv a.y.val, fv z8.val] (fun w => by rw [hz16]; exact mulR_c w a.y z8)) ?_
   obtain ⟨z17, hz17⟩ : ∃ z : Fp, z = z15 - z16 := ⟨_, rfl⟩
   refine sD 10 rfl (fv z17.val) (qF 111 #[fv z15.val, fv z16.val] (fun w => by rw [hz17]; exact subR_c w z15 z16)) <| sD 11 rfl (fv z5.val) (qL 7 g7 0 4 89 89 (fcs z5.val) rfl Tryz.underlying89) <| sZ 12 rfl (.pointer (some ⟨g0, 8, none⟩)) <| sD 13 rfl (fv a.z.val) (qL 0 g0 8 4 127 89 (tcs a.x.val a.y.val a.z.val) rfl Tryz.underlying89) ?_
   obtain ⟨z18, hz18⟩ : ∃ z : Fp, z = z5 * a.z := ⟨_, rfl⟩
   refine sD 14 rfl (fv z18.val) (qF 94 #[fv z5.val, fv a.z.val] (fun w => by rw [hz18]; exact mulR_c w z5 a.z)) <| sZ 15 rfl (tv z13.val z17.val z18.val) <| sX 16 rfl 3 g3 127 (tcs 0 0 0) (tcs z13.val z17.val z18.val) (wS 0 127 (tcs z13.val z17.val z18.val) rfl) ?_
   refine sI ?_
   refine Sy.ret ?_
   rw [show (tv (plusR a x y).x.val (plusR a x y).y.val (plusR a x y).z.val : Value) = tv z13.val z17.val z18.val from by
    rw [plusR_4 eb1 (by have q := eb2; simp only [hz2, hz1] at q; exact q)]; simp only
    have k0 : pxR a x y = z13 := by
     simp only [dblJ, pxR, pyR, hR, rR]
     simp only [hz13, hz12, hz11, hz10, hz9, hz8, hz7, hz6, hz5, hz4, hz3, hz2, hz1]
     grobner
    have k1 : pyR a x y = z17 := by
     simp only [dblJ, pxR, pyR, hR, rR]
     simp only [hz17, hz16, hz15, hz14, hz13, hz12, hz11, hz10, hz9, hz8, hz7, hz6, hz5, hz4, hz3, hz2, hz1]
     grobner
    have k2 : a.z * hR a x = z18 := by
     simp only [dblJ, pxR, pyR, hR, rR]
     simp only [hz18, hz5, hz2, hz1]
     grobner
    simp only [k0, k1, k2]]
   exact rC (v := tv z13.val z17.val z18.val) 127 g3 3 (tcs z13.val z17.val z18.val) rfl Tryz.underlying127
  ·have eb2 : z2 = a.x := Fin.ext (of_decide_eq_true hb2.symm)
   refine sT <| Sy.seq <| sC ?_
   refine sS (fv z4.val) (qL 6 g6 0 4 89 89 (fcs z4.val) rfl Tryz.underlying89) <| sP (.pointer (some ⟨g0, 4, none⟩)) <| sS (fv a.y.val) (qL 0 g0 4 4 127 89 (tcs a.x.val a.y.val a.z.val) rfl Tryz.underlying89) ?_
   obtain ⟨b3, hb3⟩ : ∃ z : Bool, z = decide (z4.val = a.y.val) := ⟨_, rfl⟩
   refine sS (.bool b3) (Quiet.pure (fun w => by rw [hb3]; exact eql_num w _ _ _ _ _ _ rfl rfl rfl lK lK)) ?_
   refine sG ?_
   cases b3
   ·have eb3 : z4 ≠ a.y := fun e => of_decide_eq_false hb3.symm (congrArg Fin.val e)
    refine sU <| Sy.skip <| sB ?_
    refine sP (tv 0 0 0) <| sW 3 g3 127 (tcs 0 0 0) (tcs 0 0 0) (wS 0 127 (tcs 0 0 0) rfl) ?_
    refine sG <| Sy.ret <| Sy.then_ret ?_
    rw [show (tv (plusR a x y).x.val (plusR a x y).y.val (plusR a x y).z.val : Value) = tv 0 0 0 from by rw [plusR_3 eb1 (by have q := eb2; simp only [hz2, hz1] at q; exact q) (by have q := eb3; simp only [hz4, hz3, hz1] at q; exact q)]; rfl]
    exact rC (v := tv 0 0 0) 127 g3 3 (tcs 0 0 0) rfl Tryz.underlying127
   ·have eb3 : z4 = a.y := Fin.ext (of_decide_eq_true hb3.symm)
    refine sT <| sC ?_
    refine sS (tv a.x.val a.y.val a.z.val) (qL 0 g0 0 12 127 127 (tcs a.x.val a.y.val a.z.val) rfl Tryz.underlying127) <| sS (tv ((dblR a).x.val) ((dblR a).y.val) ((dblR a).z.val)) (qF 91 #[tv a.x.val a.y.val a.z.val] (fun w => twiceR_c w a)) <| sW 3 g3 127 (tcs 0 0 0) (tcs ((dblR a).x.val) ((dblR a).y.val) ((dblR a).z.val)) (wS 0 127 (tcs ((dblR a).x.val) ((dblR a).y.val) ((dblR a).z.val)) rfl) ?_
    refine sG <| Sy.ret <| Sy.then_ret <| Sy.then_ret ?_
    rw [show (tv (plusR a x y).x.val (plusR a x y).y.val (plusR a x y).z.val : Value) = tv ((dblR a).x.val) ((dblR a).y.val) ((dblR a).z.val) from by rw [plusR_2 eb1 (by have q := eb2; simp only [hz2, hz1] at q; exact q) (by have q := eb3; simp only [hz4, hz3, hz1] at q; exact q)]]
    exact rC (v := tv ((dblR a).x.val) ((dblR a).y.val) ((dblR a).z.val)) 127 g3 3 (tcs ((dblR a).x.val) ((dblR a).y.val) ((dblR a).z.val)) rfl Tryz.underlying127
 ·have eb1 : a.z = (0 : Fp) := Fin.ext (of_decide_eq_true hb1.symm)
  refine sT <| Sy.seq ?_
  refine Sy.regionD (fun j => j == 4) kR ?_
  refine sD 0 rfl (fv x.val) (qL 1 g1 0 4 89 89 (fcs x.val) rfl Tryz.underlying89) <| sD 1 rfl (fv y.val) (qL 2 g2 0 4 89 89 (fcs y.val) rfl Tryz.underlying89) ?_
  obtain ⟨z19, hz19⟩ : ∃ z : Fp, z = (1 : Fp) := ⟨_, rfl⟩
  refine sD 2 rfl (fv z19.val) (qF 144 #[.int .u64 1] (fun w => by rw [hz19]; exact small_c w 1 (by decide))) <| sZ 3 rfl (tv x.val y.val z19.val) <| sX 4 rfl 3 g3 127 (tcs 0 0 0) (tcs x.val y.val z19.val) (wS 0 127 (tcs x.val y.val z19.val) rfl) ?_
  refine sI ?_
  refine Sy.ret <| Sy.then_ret ?_
  rw [show (tv (plusR a x y).x.val (plusR a x y).y.val (plusR a x y).z.val : Value) = tv x.val y.val z19.val from by rw [plusR_1 eb1]; simp only [hz19]]
  exact rC (v := tv x.val y.val z19.val) 127 g3 3 (tcs x.val y.val z19.val) rfl Tryz.underlying127
end Go.Proofs.YtbofhoonlmikcaaGreatDoor.Cu

end
section
namespace Go.Proofs.YtbofhoonlmikcaaGreatDoor.Cu
open Go.RowKit Go.Proofs.YtbofhoonlmikcaaGreatDoor Go.Proofs.YtbofhoonlmikcaaGreatDoor.Sy
set_option maxRecDepth 100000
set_option maxHeartbeats 4000000

def bt (j : Nat) : Nat := 9223372036854775808 / 2 ^ j
theorem bt_next (j : Nat) : bt j / 2 = bt (j + 1) := by unfold bt; rw [Nat.div_div_eq_div_mul, Nat.pow_succ]
theorem bt_le (j : Nat) : bt j < 18446744073709551616 := Nat.lt_of_le_of_lt (Nat.div_le_self _ _) (by decide)
theorem bt_is {j : Nat} (h : j < 64) : bt j = 2 ^ (63 - j) := by
 unfold bt
 rw [show (9223372036854775808 : Nat) = 2 ^ (63 - j) * 2 ^ j by rw [← Nat.pow_add, show 63 - j + j = 63 by omega], Nat.mul_div_cancel _ (Nat.two_pow_pos j)]
theorem bt_pos (j : Nat) : 0 < bt j ↔ j < 64 := by
 constructor
 ·intro h
  rcases Nat.lt_or_ge j 64 with hl | hl
  ·exact hl
  ·exfalso
   unfold bt at h
   rw [Nat.div_eq_of_lt (Nat.lt_of_lt_of_le (show 9223372036854775808 < 2 ^ 64 by decide) (Nat.pow_le_pow_right (by decide) hl))] at h
   omega
 ·intro h
  rw [bt_is h]
  exact Nat.two_pow_pos _
theorem and_bt (z j : Nat) (hj : j < 64) : (z &&& bt j ≠ 0) ↔ z / 2 ^ (63 - j) % 2 = 1 := by
 rw [bt_is hj]
 have e : z.testBit (63 - j) = decide (z / 2 ^ (63 - j) % 2 = 1) := Nat.testBit_eq_decide_div_mod_eq
 generalize 63 - j = i at e ⊢
 by_cases h : z / 2 ^ i % 2 = 1
 ·refine ⟨fun _ => h, fun _ h0 => ?_⟩
  have h1 := congrArg (fun t => t.testBit i) h0
  simp [Nat.testBit_and, Nat.testBit_two_pow_self, e, h] at h1
 ·refine ⟨fun h0 => (h0 (Nat.eq_of_testBit_eq fun k => ?_)).elim, fun h0 => (h h0).elim⟩
  rw [Nat.testBit_and, Nat.zero_testBit, Nat.testBit_two_pow]
  by_cases hk : i = k
  ·subst hk
   simp [e, h]
  ·simp [hk]
theorem exec_and (F : Slots) (o : Oper) (t : TypeId) (x y : Operand) {yt : TypeId} (z b : Nat) (hz : z < 18446744073709551616) (hb : b < 18446744073709551616) (ho : o.op = .binOp .and t x y yt) (hx : evF F x = qv z) (hy : evF F y = .int .u64 (b : Int)) (w : World) : (execOp (evF F) o).run Tryz.prog w = .ok (.value (.int .u64 ((z &&& b : Nat) : Int))) w :=
 exec_int .and t x y .u64 (z : Int) (b : Int) _ ho hx hy (int_and t .u64 _ _ _ (by
  have e : ((BitVec.ofInt IntKind.u64.bits (z : Int) &&& BitVec.ofInt IntKind.u64.bits (b : Int)).toNat) = z &&& b := by
   show ((BitVec.ofInt 64 (z : Int) &&& BitVec.ofInt 64 (b : Int)).toNat) = _
   rw [BitVec.toNat_and, BitVec.ofInt_natCast, BitVec.ofInt_natCast, BitVec.toNat_ofNat, BitVec.toNat_ofNat, Nat.mod_eq_of_lt (by omega), Nat.mod_eq_of_lt (by omega)]
  rw [e]
  have h : z &&& b ≤ z := Nat.and_le_left
  exact wrap_u64 (by omega) (by omega))) w
def bitJ (m : Nat) (x y : Fp) : Nat → J
 | 0 => ⟨0, 0, 0⟩
 | t + 1 => if m / 2 ^ (255 - t) % 2 = 1 then plusR (dblR (bitJ m x y t)) x y else dblR (bitJ m x y t)
theorem bitJ_yes {m : Nat} {x y : Fp} {t : Nat} (h : m / 2 ^ (255 - t) % 2 = 1) : bitJ m x y (t + 1) = plusR (dblR (bitJ m x y t)) x y := if_pos h
theorem bitJ_no {m : Nat} {x y : Fp} {t : Nat} (h : ¬ m / 2 ^ (255 - t) % 2 = 1) : bitJ m x y (t + 1) = dblR (bitJ m x y t) := if_neg h
theorem bitJ_rep {m : Nat} (hm : m < 2 ^ 256) {x y : Fp} (h : y * y = x * x * x + 7) : ∀ t, t ≤ 256 → Ec.Rep (bitJ m x y t) (Ec.nm finv (m / 2 ^ (256 - t)) (some (x, y)))
 | 0, _ => by
  rw [Nat.sub_zero, Nat.div_eq_of_lt hm]
  rfl
 | t + 1, ht => by
  have hP : Ec.On (some (x, y)) := h
  have h1 := bitJ_rep hm h t (by omega)
  have hS := hP.nm fld (m / 2 ^ (256 - t))
  have h2 := dblR_rep hS h1
  have e := Ec.bit_step fld hP m (2 ^ (255 - t))
  rw [← Nat.pow_succ', show (255 - t).succ = 256 - t by omega] at e
  rw [show 256 - (t + 1) = 255 - t by omega, ← e]
  by_cases hb : m / 2 ^ (255 - t) % 2 = 1
  ·rw [bitJ_yes hb, hb, Ec.nm_one]
   exact plusR_rep (Ec.On.add fld hS hS) h h2
  ·rw [bitJ_no hb, show m / 2 ^ (255 - t) % 2 = 0 by omega, show Ec.nm finv 0 (some (x, y)) = none from rfl, Ec.add_zero]
   exact h2
theorem word_bit (m i j : Nat) (hj : j < 64) : m / 2 ^ (64 * i) % 18446744073709551616 / 2 ^ (63 - j) % 2 = m / 2 ^ (64 * i + (63 - j)) % 2 := by
 rw [Nat.pow_add, ← Nat.div_div_eq_div_mul, show (18446744073709551616 : Nat) = 2 ^ (63 - j) * 2 ^ (j + 1) by rw [← Nat.pow_add, show 63 - j + (j + 1) = 64 by omega], Nat.mod_mul_right_div_self, Nat.pow_succ', Nat.mod_mul_right_mod]
theorem word_bit0 (m j : Nat) (hj : j < 64) : m % 18446744073709551616 / 2 ^ (63 - j) % 2 = m / 2 ^ (64 * 0 + (63 - j)) % 2 := by
 have q := word_bit m 0 j hj
 rw [Nat.mul_zero, Nat.pow_zero, Nat.div_one] at q
 exact q
def modN : Array Value := #[.int .u64 13822214165235122497, .int .u64 13451932020343611451, .int .u64 18446744073709551614, .int .u64 18446744073709551615, .int .u64 4624529908474429119, .int .u64 4994812053365940164, .int .u64 1]
theorem mulRe_none (w : World) (k x y : Nat) (i : Bool) (hk : k < K4) (hx : x < K4) (hy : y < K4) (h : dec x y i = none) : Calls Tryz.prog 42 #[fv k, pv x y i] w (Gets w (ptv none)) := by
 refine Sy.enter (args := [fv k, pv x y i]) Tryz.func42 rfl kL ?_
 refine sC ?_
 refine sM 24 (fcs k) (fun g0 => ?_)
 refine sM 52 (pcs x y i) (fun g1 => ?_)
 refine sM 52 (pcs 0 0 false) (fun g2 => ?_)
 refine sA ?_
 refine sS (pv x y i) (qL 1 g1 0 9 52 52 (pcs x y i) rfl Tryz.underlying52) <| sS (pv 0 0 true) (qF 88 #[pv x y i] (fun w => by have hrr := taken_c w x y i hx hy; rw [h] at hrr; exact hrr)) <| sW 1 g1 52 (pcs x y i) (pcs 0 0 true) (wS 0 52 (pcs 0 0 true) rfl) ?_
 refine sG <| Sy.seq <| sC ?_
 refine sP (.pointer (some ⟨g1, 8, none⟩)) <| sS (.bool true) (qC 1 g1 8 52 4 (pcs 0 0 true) rfl Tryz.underlying4) ?_
 refine sG <| sT <| sC ?_
 refine sS (pv 0 0 true) (qL 1 g1 0 9 52 52 (pcs 0 0 true) rfl Tryz.underlying52) <| sW 2 g2 52 (pcs 0 0 false) (pcs 0 0 true) (wS 0 52 (pcs 0 0 true) rfl) ?_
 refine sG <| Sy.ret <| Sy.then_ret ?_
 rw [show (ptv none : Value) = pv 0 0 true from rfl]
 exact rC (v := pv 0 0 true) 52 g2 2 (pcs 0 0 true) rfl Tryz.underlying52
theorem mulRe_some (w : World) (k x y : Nat) (i : Bool) (hk : k < K4) (hx : x < K4) (hy : y < K4) (u v : Fp) (h : dec x y i = some (u, v)) (ho : v * v = u * u * u + 7) : Calls Tryz.prog 42 #[fv k, pv x y i] w (Gets w (ptv (Ec.nm finv (k % Sc.pM) (some (u, v))))) := by
 obtain ⟨m, hm⟩ : ∃ m, m = k % Sc.pM := ⟨_, rfl⟩
 obtain ⟨Q, hQ⟩ : ∃ Q, Q = ptJ (bitJ m u v 256) := ⟨_, rfl⟩
 have hml : m < K4 := by rw [hm]; exact Sc.mod_lt k
 have hn : Ec.nm finv (k % Sc.pM) (some (u, v)) = Q := by
  have q := bitJ_rep (m := m) hml ho 256 (Nat.le_refl _)
  rw [Nat.sub_self, Nat.pow_zero, Nat.div_one] at q
  rw [← hm, hQ]
  exact (ptJ_rep q).symm
 rw [hn]
 refine Sy.enter (args := [fv k, pv x y i]) Tryz.func42 rfl kL ?_
 refine sC ?_
 refine sM 24 (fcs k) (fun g0 => ?_)
 refine sM 52 (pcs x y i) (fun g1 => ?_)
 refine sM 52 (pcs 0 0 false) (fun g2 => ?_)
 refine sA ?_
 refine sS (pv x y i) (qL 1 g1 0 9 52 52 (pcs x y i) rfl Tryz.underlying52) <| sS (pv u.val v.val false) (qF 88 #[pv x y i] (fun w => by have hrr := taken_c w x y i hx hy; rw [h] at hrr; exact hrr)) <| sW 1 g1 52 (pcs x y i) (pcs u.val v.val false) (wS 0 52 (pcs u.val v.val false) rfl) ?_
 refine sG <| Sy.seq <| sC ?_
 refine sP (.pointer (some ⟨g1, 8, none⟩)) <| sS (.bool false) (qC 1 g1 8 52 4 (pcs u.val v.val false) rfl Tryz.underlying4) ?_
 refine sG <| sU <| Sy.skip ?_
 refine sR (fun j => j == 5) ?_
 refine sD 0 rfl (.agg modN) (qF 76 #[] (Sc.refN_any)) <| sD 1 rfl (fv k) (qL 0 g0 0 4 24 24 (fcs k) rfl Tryz.underlying24) <| sD 2 rfl (fv k) (qF 77 #[fv k] (fun w => Sc.refOf_any w k lK)) <| sD 3 rfl (fv m) (qF 89 #[.agg modN, fv k] (fun w => by rw [hm]; exact Sc.normR_any w k hk)) ?_
 refine sO 4 rfl 89 (fcs 0) (fun g3 => ?_)
 refine sX 5 rfl 3 g3 89 (fcs 0) (fcs m) (wS 0 89 (fcs m) rfl) ?_
 refine sE ?_
 refine sB ?_
 refine sP (.pointer (some ⟨g1, 0, none⟩)) <| sS (fv u.val) (qL 1 g1 0 4 52 50 (pcs u.val v.val false) rfl Tryz.underlying50) <| sS (fv u.val) (qF 90 #[fv u.val] (fun w => refOf_any w u.val lK)) ?_
 refine sM 89 (fcs 0) (fun g4 => ?_)
 refine sW 4 g4 89 (fcs 0) (fcs u.val) (wS 0 89 (fcs u.val) rfl) ?_
 refine sA ?_
 refine sP (.pointer (some ⟨g1, 4, none⟩)) <| sS (fv v.val) (qL 1 g1 4 4 52 50 (pcs u.val v.val false) rfl Tryz.underlying50) <| sS (fv v.val) (qF 90 #[fv v.val] (fun w => refOf_any w v.val lK)) ?_
 refine sM 89 (fcs 0) (fun g5 => ?_)
 refine sW 5 g5 89 (fcs 0) (fcs v.val) (wS 0 89 (fcs v.val) rfl) ?_
 refine sA ?_
 refine sP (tv 0 0 0) ?_
 refine sM 127 (tcs 0 0 0) (fun g6 => ?_)
 refine sW 6 g6 127 (tcs 0 0 0) (tcs 0 0 0) (wS 0 127 (tcs 0 0 0) rfl) ?_
 refine sG <| Sy.seq <| sC ?_
 refine sP (.int .i64 3) ?_
 refine sG <| Sy.block ?_
 refine Sy.loopN 5 ?_
 refine Sy.tidyR (G := [(4, .pointer (some ⟨g2, 0, none⟩)), (5, .pointer (some ⟨g3, 0, none⟩)), (6, .pointer (some ⟨g4, 0, none⟩)), (7, .pointer (some ⟨g5, 0, none⟩)), (8, .pointer (some ⟨g6, 0, none⟩)), (9, .int .i64 3)]) (M := [(g2, 52, (pcs 0 0 false)), (g3, 89, (fcs m)), (g4, 89, (fcs u.val)), (g5, 89, (fcs v.val)), (g6, 127, (tcs 0 0 0))]) [false, false, true, true, true, true, true] kR (all_cons kR (all_cons kR (all_cons kR (all_cons kR (all_cons kR (all_cons kR all_nil)))))) ?_
 refine Sy.round <| Sy.seq <| sC ?_
 refine sP (.int .i64 3) <| sP (.bool true) ?_
 refine sG <| sT <| Sy.skip <| Sy.then_ <| Sy.seq <| Sy.block <| sC ?_
 refine sP (.int .u64 9223372036854775808) ?_
 refine sG <| Sy.block ?_
 refine Sy.loopK 64 (fun k2x0 => [(4, .pointer (some ⟨g2, 0, none⟩)), (5, .pointer (some ⟨g3, 0, none⟩)), (6, .pointer (some ⟨g4, 0, none⟩)), (7, .pointer (some ⟨g5, 0, none⟩)), (8, .pointer (some ⟨g6, 0, none⟩)), (9, .int .i64 3), (10, .int .u64 ((bt k2x0 : Nat) : Int))]) (fun k2x0 => [(g2, 52, (pcs 0 0 false)), (g3, 89, (fcs m)), (g4, 89, (fcs u.val)), (g5, 89, (fcs v.val)), (g6, 127, (tcs ((bitJ m u v (0 + k2x0)).x.val) ((bitJ m u v (0 + k2x0)).y.val) ((bitJ m u v (0 + k2x0)).z.val)))]) [true, true, true, true, true] (M := [(g2, 52, (pcs 0 0 false)), (g3, 89, (fcs m)), (g4, 89, (fcs u.val)), (g5, 89, (fcs v.val)), (g6, 127, (tcs 0 0 0))]) (all_cons kR (all_cons kR (all_cons kR (all_cons kR (all_cons kR (all_cons kR (all_cons kR all_nil))))))) kR (bcons rfl (bcons rfl (bcons rfl (bcons rfl (bcons rfl rfl))))) (fun k2x0 hk2x0 => ?_)
 refine Sy.seq <| sC ?_
 refine sP (.int .u64 ((bt k2x0 : Nat) : Int)) ?_
 obtain ⟨b1, hb1⟩ : ∃ z : Bool, z = decide (k2x0 < 64) := ⟨_, rfl⟩
 refine sS (.bool b1) (Quiet.pure (exec_int .gtr _ _ _ .u64 _ _ _ rfl rfl rfl (int_gtr _ _ _ _ _ (by rw [hb1]; exact decide_eq_decide.2 (by rw [← bt_pos]; omega))))) ?_
 refine sG ?_
 cases b1
 ·have lb1 : ¬ (k2x0 < 64) := of_decide_eq_false hb1.symm
  refine sU <| Sy.exit <| Sy.then_exit <| Sy.then_exit ?_
  obtain rfl : k2x0 = 64 := by omega
  refine Sy.in_exit <| Sy.in_ <| Sy.then_ <| Sy.region ?_
  refine sP (.int .i64 3) <| sP (.int .i64 2) <| sP (.int .i64 2) ?_
  refine Sy.nil <| Sy.again ?_
  refine Sy.tidyR (G := [(4, .pointer (some ⟨g2, 0, none⟩)), (5, .pointer (some ⟨g3, 0, none⟩)), (6, .pointer (some ⟨g4, 0, none⟩)), (7, .pointer (some ⟨g5, 0, none⟩)), (8, .pointer (some ⟨g6, 0, none⟩)), (9, .int .i64 2)]) (M := [(g2, 52, (pcs 0 0 false)), (g3, 89, (fcs m)), (g4, 89, (fcs u.val)), (g5, 89, (fcs v.val)), (g6, 127, (tcs ((bitJ m u v (0 + 64)).x.val) ((bitJ m u v (0 + 64)).y.val) ((bitJ m u v (0 + 64)).z.val)))]) [true, true, true, true, true] kR (all_cons kR (all_cons kR (all_cons kR (all_cons kR (all_cons kR (all_cons kR all_nil)))))) ?_
  refine Sy.round <| Sy.seq <| sC ?_
  refine sP (.int .i64 2) <| sP (.bool true) ?_
  refine sG <| sT <| Sy.skip <| Sy.then_ <| Sy.seq <| Sy.block <| sC ?_
  refine sP (.int .u64 9223372036854775808) ?_
  refine sG <| Sy.block ?_
  refine Sy.loopK 64 (fun k2x1 => [(4, .pointer (some ⟨g2, 0, none⟩)), (5, .pointer (some ⟨g3, 0, none⟩)), (6, .pointer (some ⟨g4, 0, none⟩)), (7, .pointer (some ⟨g5, 0, none⟩)), (8, .pointer (some ⟨g6, 0, none⟩)), (9, .int .i64 2), (10, .int .u64 ((bt k2x1 : Nat) : Int))]) (fun k2x1 => [(g2, 52, (pcs 0 0 false)), (g3, 89, (fcs m)), (g4, 89, (fcs u.val)), (g5, 89, (fcs v.val)), (g6, 127, (tcs ((bitJ m u v (64 + k2x1)).x.val) ((bitJ m u v (64 + k2x1)).y.val) ((bitJ m u v (64 + k2x1)).z.val)))]) [true, true, true, true, true] (M := [(g2, 52, (pcs 0 0 false)), (g3, 89, (fcs m)), (g4, 89, (fcs u.val)), (g5, 89, (fcs v.val)), (g6, 127, (tcs ((bitJ m u v (0 + 64)).x.val) ((bitJ m u v (0 + 64)).y.val) ((bitJ m u v (0 + 64)).z.val)))]) (all_cons kR (all_cons kR (all_cons kR (all_cons kR (all_cons kR (all_cons kR (all_cons kR all_nil))))))) kR (bcons rfl (bcons rfl (bcons rfl (bcons rfl (bcons rfl rfl))))) (fun k2x1 hk2x1 => ?_)
  refine Sy.seq <| sC ?_
  refine sP (.int .u64 ((bt k2x1 : Nat) : Int)) ?_
  obtain ⟨b2, hb2⟩ : ∃ z : Bool, z = decide (k2x1 < 64) := ⟨_, rfl⟩
  refine sS (.bool b2) (Quiet.pure (exec_int .gtr _ _ _ .u64 _ _ _ rfl rfl rfl (int_gtr _ _ _ _ _ (by rw [hb2]; exact decide_eq_decide.2 (by rw [← bt_pos]; omega))))) ?_
  refine sG ?_
  cases b2
  ·have lb2 : ¬ (k2x1 < 64) := of_decide_eq_false hb2.symm
   refine sU <| Sy.exit <| Sy.then_exit <| Sy.then_exit ?_
   obtain rfl : k2x1 = 64 := by omega
   refine Sy.in_exit <| Sy.in_ <| Sy.then_ <| Sy.region ?_
   refine sP (.int .i64 2) <| sP (.int .i64 1) <| sP (.int .i64 1) ?_
   refine Sy.nil <| Sy.again ?_
   refine Sy.tidyR (G := [(4, .pointer (some ⟨g2, 0, none⟩)), (5, .pointer (some ⟨g3, 0, none⟩)), (6, .pointer (some ⟨g4, 0, none⟩)), (7, .pointer (some ⟨g5, 0, none⟩)), (8, .pointer (some ⟨g6, 0, none⟩)), (9, .int .i64 1)]) (M := [(g2, 52, (pcs 0 0 false)), (g3, 89, (fcs m)), (g4, 89, (fcs u.val)), (g5, 89, (fcs v.val)), (g6, 127, (tcs ((bitJ m u v (64 + 64)).x.val) ((bitJ m u v (64 + 64)).y.val) ((bitJ m u v (64 + 64)).z.val)))]) [true, true, true, true, true] kR (all_cons kR (all_cons kR (all_cons kR (all_cons kR (all_cons kR (all_cons kR all_nil)))))) ?_
   refine Sy.round <| Sy.seq <| sC ?_
   refine sP (.int .i64 1) <| sP (.bool true) ?_
   refine sG <| sT <| Sy.skip <| Sy.then_ <| Sy.seq <| Sy.block <| sC ?_
   refine sP (.int .u64 9223372036854775808) ?_
   refine sG <| Sy.block ?_
   refine Sy.loopK 64 (fun k2x2 => [(4, .pointer (some ⟨g2, 0, none⟩)), (5, .pointer (some ⟨g3, 0, none⟩)), (6, .pointer (some ⟨g4, 0, none⟩)), (7, .pointer (some ⟨g5, 0, none⟩)), (8, .pointer (some ⟨g6, 0, none⟩)), (9, .int .i64 1), (10, .int .u64 ((bt k2x2 : Nat) : Int))]) (fun k2x2 => [(g2, 52, (pcs 0 0 false)), (g3, 89, (fcs m)), (g4, 89, (fcs u.val)), (g5, 89, (fcs v.val)), (g6, 127, (tcs ((bitJ m u v (128 + k2x2)).x.val) ((bitJ m u v (128 + k2x2)).y.val) ((bitJ m u v (128 + k2x2)).z.val)))]) [true, true, true, true, true] (M := [(g2, 52, (pcs 0 0 false)), (g3, 89, (fcs m)), (g4, 89, (fcs u.val)), (g5, 89, (fcs v.val)), (g6, 127, (tcs ((bitJ m u v (64 + 64)).x.val) ((bitJ m u v (64 + 64)).y.val) ((bitJ m u v (64 + 64)).z.val)))]) (all_cons kR (all_cons kR (all_cons kR (all_cons kR (all_cons kR (all_cons kR (all_cons kR all_nil))))))) kR (bcons rfl (bcons rfl (bcons rfl (bcons rfl (bcons rfl rfl))))) (fun k2x2 hk2x2 => ?_)
   refine Sy.seq <| sC ?_
   refine sP (.int .u64 ((bt k2x2 : Nat) : Int)) ?_
   obtain ⟨b3, hb3⟩ : ∃ z : Bool, z = decide (k2x2 < 64) := ⟨_, rfl⟩
   refine sS (.bool b3) (Quiet.pure (exec_int .gtr _ _ _ .u64 _ _ _ rfl rfl rfl (int_gtr _ _ _ _ _ (by rw [hb3]; exact decide_eq_decide.2 (by rw [← bt_pos]; omega))))) ?_
   refine sG ?_
   cases b3
   ·have lb3 : ¬ (k2x2 < 64) := of_decide_eq_false hb3.symm
    refine sU <| Sy.exit <| Sy.then_exit <| Sy.then_exit ?_
    obtain rfl : k2x2 = 64 := by omega
    refine Sy.in_exit <| Sy.in_ <| Sy.then_ <| Sy.region ?_
    refine sP (.int .i64 1) <| sP (.int .i64 0) <| sP (.int .i64 0) ?_
    refine Sy.nil <| Sy.again ?_
    refine Sy.tidyR (G := [(4, .pointer (some ⟨g2, 0, none⟩)), (5, .pointer (some ⟨g3, 0, none⟩)), (6, .pointer (some ⟨g4, 0, none⟩)), (7, .pointer (some ⟨g5, 0, none⟩)), (8, .pointer (some ⟨g6, 0, none⟩)), (9, .int .i64 0)]) (M := [(g2, 52, (pcs 0 0 false)), (g3, 89, (fcs m)), (g4, 89, (fcs u.val)), (g5, 89, (fcs v.val)), (g6, 127, (tcs ((bitJ m u v (128 + 64)).x.val) ((bitJ m u v (128 + 64)).y.val) ((bitJ m u v (128 + 64)).z.val)))]) [true, true, true, true, true] kR (all_cons kR (all_cons kR (all_cons kR (all_cons kR (all_cons kR (all_cons kR all_nil)))))) ?_
    refine Sy.round <| Sy.seq <| sC ?_
    refine sP (.int .i64 0) <| sP (.bool true) ?_
    refine sG <| sT <| Sy.skip <| Sy.then_ <| Sy.seq <| Sy.block <| sC ?_
    refine sP (.int .u64 9223372036854775808) ?_
    refine sG <| Sy.block ?_
    refine Sy.loopK 64 (fun k2x3 => [(4, .pointer (some ⟨g2, 0, none⟩)), (5, .pointer (some ⟨g3, 0, none⟩)), (6, .pointer (some ⟨g4, 0, none⟩)), (7, .pointer (some ⟨g5, 0, none⟩)), (8, .pointer (some ⟨g6, 0, none⟩)), (9, .int .i64 0), (10, .int .u64 ((bt k2x3 : Nat) : Int))]) (fun k2x3 => [(g2, 52, (pcs 0 0 false)), (g3, 89, (fcs m)), (g4, 89, (fcs u.val)), (g5, 89, (fcs v.val)), (g6, 127, (tcs ((bitJ m u v (192 + k2x3)).x.val) ((bitJ m u v (192 + k2x3)).y.val) ((bitJ m u v (192 + k2x3)).z.val)))]) [true, true, true, true, true] (M := [(g2, 52, (pcs 0 0 false)), (g3, 89, (fcs m)), (g4, 89, (fcs u.val)), (g5, 89, (fcs v.val)), (g6, 127, (tcs ((bitJ m u v (128 + 64)).x.val) ((bitJ m u v (128 + 64)).y.val) ((bitJ m u v (128 + 64)).z.val)))]) (all_cons kR (all_cons kR (all_cons kR (all_cons kR (all_cons kR (all_cons kR (all_cons kR all_nil))))))) kR (bcons rfl (bcons rfl (bcons rfl (bcons rfl (bcons rfl rfl))))) (fun k2x3 hk2x3 => ?_)
    refine Sy.seq <| sC ?_
    refine sP (.int .u64 ((bt k2x3 : Nat) : Int)) ?_
    obtain ⟨b4, hb4⟩ : ∃ z : Bool, z = decide (k2x3 < 64) := ⟨_, rfl⟩
    refine sS (.bool b4) (Quiet.pure (exec_int .gtr _ _ _ .u64 _ _ _ rfl rfl rfl (int_gtr _ _ _ _ _ (by rw [hb4]; exact decide_eq_decide.2 (by rw [← bt_pos]; omega))))) ?_
    refine sG ?_
    cases b4
    ·have lb4 : ¬ (k2x3 < 64) := of_decide_eq_false hb4.symm
     refine sU <| Sy.exit <| Sy.then_exit <| Sy.then_exit ?_
     obtain rfl : k2x3 = 64 := by omega
     refine Sy.in_exit <| Sy.in_ <| Sy.then_ <| Sy.region ?_
     refine sP (.int .i64 0) <| sP (.int .i64 (-1)) <| sP (.int .i64 (-1)) ?_
     refine Sy.nil <| Sy.again ?_
     refine Sy.tidyR (G := [(4, .pointer (some ⟨g2, 0, none⟩)), (5, .pointer (some ⟨g3, 0, none⟩)), (6, .pointer (some ⟨g4, 0, none⟩)), (7, .pointer (some ⟨g5, 0, none⟩)), (8, .pointer (some ⟨g6, 0, none⟩)), (9, .int .i64 (-1))]) (M := [(g2, 52, (pcs 0 0 false)), (g3, 89, (fcs m)), (g4, 89, (fcs u.val)), (g5, 89, (fcs v.val)), (g6, 127, (tcs ((bitJ m u v (192 + 64)).x.val) ((bitJ m u v (192 + 64)).y.val) ((bitJ m u v (192 + 64)).z.val)))]) [true, true, true, true, true] kR (all_cons kR (all_cons kR (all_cons kR (all_cons kR (all_cons kR (all_cons kR all_nil)))))) ?_
     refine Sy.round <| Sy.seq <| sC ?_
     refine sP (.int .i64 (-1)) <| sP (.bool false) ?_
     refine sG <| sU <| Sy.exit <| Sy.then_exit <| Sy.then_exit <| Sy.in_exit <| Sy.then_ <| Sy.seq <| sC ?_
     refine sP (.pointer (some ⟨g6, 8, none⟩)) <| sS (fv ((bitJ m u v (192 + 64)).z.val)) (qL 4 g6 8 4 127 89 (tcs ((bitJ m u v (192 + 64)).x.val) ((bitJ m u v (192 + 64)).y.val) ((bitJ m u v (192 + 64)).z.val)) rfl Tryz.underlying89) <| sP (fv 0) ?_
     obtain ⟨b5, hb5⟩ : ∃ z : Bool, z = decide ((bitJ m u v (192 + 64)).z.val = 0) := ⟨_, rfl⟩
     refine sS (.bool b5) (Quiet.pure (fun w => by rw [hb5]; exact eql_num w _ _ _ _ _ _ rfl rfl rfl lK lK)) ?_
     refine sG ?_
     cases b5
     ·have eb5 : (bitJ m u v (192 + 64)).z ≠ (0 : Fp) := fun e => of_decide_eq_false hb5.symm (congrArg Fin.val e)
      refine sU <| Sy.skip ?_
      refine sR (fun j => j == 5) ?_
      refine sD 0 rfl (.agg modcs) (qF 56 #[] (refP_any)) <| sZ 1 rfl (.pointer (some ⟨g6, 8, none⟩)) <| sD 2 rfl (fv ((bitJ m u v (192 + 64)).z.val)) (qL 4 g6 8 4 127 89 (tcs ((bitJ m u v (192 + 64)).x.val) ((bitJ m u v (192 + 64)).y.val) ((bitJ m u v (192 + 64)).z.val)) rfl Tryz.underlying89) ?_
      obtain ⟨z1, hz1⟩ : ∃ z : Fp, z = finv (bitJ m u v (192 + 64)).z := ⟨_, rfl⟩
      refine sD 3 rfl (fv z1.val) (qF 93 #[.agg modcs, fv ((bitJ m u v (192 + 64)).z.val)] (fun w => by rw [hz1]; exact refinv_c w (bitJ m u v (192 + 64)).z)) ?_
      refine sO 4 rfl 89 (fcs 0) (fun g7 => ?_)
      refine sX 5 rfl 5 g7 89 (fcs 0) (fcs z1.val) (wS 0 89 (fcs z1.val) rfl) ?_
      refine sE ?_
      refine sB ?_
      refine sS (fv z1.val) (qL 5 g7 0 4 89 89 (fcs z1.val) rfl Tryz.underlying89) <| sS (fv z1.val) (qL 5 g7 0 4 89 89 (fcs z1.val) rfl Tryz.underlying89) ?_
      obtain ⟨z2, hz2⟩ : ∃ z : Fp, z = z1 * z1 := ⟨_, rfl⟩
      refine sS (fv z2.val) (qF 94 #[fv z1.val, fv z1.val] (fun w => by rw [hz2]; exact mulR_c w z1 z1)) ?_
      refine sM 89 (fcs 0) (fun g8 => ?_)
      refine sW 6 g8 89 (fcs 0) (fcs z2.val) (wS 0 89 (fcs z2.val) rfl) ?_
      refine sH (fun j => j == 11) ?_
      refine sZ 0 rfl (.pointer (some ⟨g6, 0, none⟩)) <| sD 1 rfl (fv ((bitJ m u v (192 + 64)).x.val)) (qL 4 g6 0 4 127 89 (tcs ((bitJ m u v (192 + 64)).x.val) ((bitJ m u v (192 + 64)).y.val) ((bitJ m u v (192 + 64)).z.val)) rfl Tryz.underlying89) <| sD 2 rfl (fv z2.val) (qL 6 g8 0 4 89 89 (fcs z2.val) rfl Tryz.underlying89) ?_
      obtain ⟨z3, hz3⟩ : ∃ z : Fp, z = (bitJ m u v (192 + 64)).x * z2 := ⟨_, rfl⟩
      refine sD 3 rfl (fv z3.val) (qF 94 #[fv ((bitJ m u v (192 + 64)).x.val), fv z2.val] (fun w => by rw [hz3]; exact mulR_c w (bitJ m u v (192 + 64)).x z2)) <| sZ 4 rfl (.pointer (some ⟨g6, 4, none⟩)) <| sD 5 rfl (fv ((bitJ m u v (192 + 64)).y.val)) (qL 4 g6 4 4 127 89 (tcs ((bitJ m u v (192 + 64)).x.val) ((bitJ m u v (192 + 64)).y.val) ((bitJ m u v (192 + 64)).z.val)) rfl Tryz.underlying89) <| sD 6 rfl (fv z2.val) (qL 6 g8 0 4 89 89 (fcs z2.val) rfl Tryz.underlying89) <| sD 7 rfl (fv z1.val) (qL 5 g7 0 4 89 89 (fcs z1.val) rfl Tryz.underlying89) ?_
      obtain ⟨z4, hz4⟩ : ∃ z : Fp, z = z2 * z1 := ⟨_, rfl⟩
      refine sD 8 rfl (fv z4.val) (qF 94 #[fv z2.val, fv z1.val] (fun w => by rw [hz4]; exact mulR_c w z2 z1)) ?_
      obtain ⟨z5, hz5⟩ : ∃ z : Fp, z = (bitJ m u v (192 + 64)).y * z4 := ⟨_, rfl⟩
      refine sD 9 rfl (fv z5.val) (qF 94 #[fv ((bitJ m u v (192 + 64)).y.val), fv z4.val] (fun w => by rw [hz5]; exact mulR_c w (bitJ m u v (192 + 64)).y z4)) <| sD 10 rfl (pv z3.val z5.val false) (qF 95 #[fv z3.val, fv z5.val] (fun w => pointR_c w z3.val z5.val lK lK)) <| sX 11 rfl 0 g2 52 (pcs 0 0 false) (pcs z3.val z5.val false) (wS 0 52 (pcs z3.val z5.val false) rfl) ?_
      refine sI ?_
      refine Sy.ret ?_
      rw [show (ptv Q : Value) = pv z3.val z5.val false from by rw [hQ]; unfold ptJ; rw [if_neg eb5]; unfold ptv; simp only [hz5, hz4, hz3, hz2, hz1]]
      exact rC (v := pv z3.val z5.val false) 52 g2 0 (pcs z3.val z5.val false) rfl Tryz.underlying52
     ·have eb5 : (bitJ m u v (192 + 64)).z = (0 : Fp) := Fin.ext (of_decide_eq_true hb5.symm)
      refine sT <| sC ?_
      refine sS (pv 0 0 true) (qF 62 #[] (zeroR_c)) <| sW 0 g2 52 (pcs 0 0 false) (pcs 0 0 true) (wS 0 52 (pcs 0 0 true) rfl) ?_
      refine sG <| Sy.ret <| Sy.then_ret ?_
      rw [show (ptv Q : Value) = pv 0 0 true from by rw [hQ]; unfold ptJ; rw [if_pos eb5]; rfl]
      exact rC (v := pv 0 0 true) 52 g2 0 (pcs 0 0 true) rfl Tryz.underlying52
    ·have lb4 : k2x3 < 64 := of_decide_eq_true hb4.symm
     refine sT <| Sy.skip <| Sy.then_ <| Sy.seq <| Sy.block <| sC ?_
     refine sS (tv ((bitJ m u v (192 + k2x3)).x.val) ((bitJ m u v (192 + k2x3)).y.val) ((bitJ m u v (192 + k2x3)).z.val)) (qL 4 g6 0 12 127 127 (tcs ((bitJ m u v (192 + k2x3)).x.val) ((bitJ m u v (192 + k2x3)).y.val) ((bitJ m u v (192 + k2x3)).z.val)) rfl Tryz.underlying127) ?_
     obtain ⟨j1, hj1⟩ : ∃ z : J, z = dblR (bitJ m u v (192 + k2x3)) := ⟨_, rfl⟩
     refine sS (tv j1.x.val j1.y.val j1.z.val) (qF 91 #[tv ((bitJ m u v (192 + k2x3)).x.val) ((bitJ m u v (192 + k2x3)).y.val) ((bitJ m u v (192 + k2x3)).z.val)] (fun w => by rw [hj1]; exact twiceR_c w (bitJ m u v (192 + k2x3)))) <| sW 4 g6 127 (tcs ((bitJ m u v (192 + k2x3)).x.val) ((bitJ m u v (192 + k2x3)).y.val) ((bitJ m u v (192 + k2x3)).z.val)) (tcs j1.x.val j1.y.val j1.z.val) (wS 0 127 (tcs j1.x.val j1.y.val j1.z.val) rfl) ?_
     refine sA ?_
     refine sP (.int .i64 0) <| sP (.pointer (some ⟨g3, 0, none⟩)) <| sS (qv (m % 18446744073709551616)) (qC 1 g3 0 89 22 (fcs m) rfl Tryz.underlying22) <| sP (.int .u64 ((bt k2x3 : Nat) : Int)) <| sS (.int .u64 (((m % 18446744073709551616) &&& bt k2x3 : Nat) : Int)) (Quiet.pure (exec_and _ _ _ _ _ (m % 18446744073709551616) (bt k2x3) (Nat.mod_lt _ (by decide)) (bt_le _) rfl rfl rfl)) ?_
     obtain ⟨b6, hb6⟩ : ∃ z : Bool, z = decide ((m % 18446744073709551616) &&& bt k2x3 ≠ 0) := ⟨_, rfl⟩
     refine sS (.bool b6) (Quiet.pure (exec_int .neq _ _ _ .u64 _ _ _ rfl rfl rfl (int_neq _ _ _ _ _ (by rw [hb6]; exact decide_eq_decide.2 (by omega))))) ?_
     refine sG ?_
     cases b6
     ·have lb6 : ¬ ((m % 18446744073709551616) &&& bt k2x3 ≠ 0) := of_decide_eq_false hb6.symm
      have fb6 : ¬ m / 2 ^ (255 - (192 + k2x3)) % 2 = 1 := by
       have q := and_bt (m % 18446744073709551616) k2x3 (by omega)
       have q2 := word_bit0 m k2x3 (by omega)
       rw [show 64 * 0 + (63 - k2x3) = 255 - (192 + k2x3) by omega] at q2
       rw [← q2]
       exact fun t => lb6 (q.2 t)
      refine sU <| Sy.skip <| Sy.in_ <| Sy.then_ <| Sy.region ?_
      refine sP (.int .u64 ((bt k2x3 : Nat) : Int)) <| sS (.int .u64 ((bt (k2x3 + 1) : Nat) : Int)) (Quiet.pure (exec_int .quo _ _ _ .u64 _ _ _ rfl rfl rfl (int_quo _ _ _ _ _ (by decide) (by rw [← bt_next]; have := bt_le k2x3; rw [show ((bt k2x3 : Nat) : Int).tdiv 2 = ((bt k2x3 / 2 : Nat) : Int) from rfl]; exact wrap_u64 (by omega) (by omega))))) <| sP (.int .u64 ((bt (k2x3 + 1) : Nat) : Int)) ?_
      refine Sy.nil ?_
      exact Sy.againK [true, true, true, true, true] (M := [(g2, 52, (pcs 0 0 false)), (g3, 89, (fcs m)), (g4, 89, (fcs u.val)), (g5, 89, (fcs v.val)), (g6, 127, (tcs j1.x.val j1.y.val j1.z.val))]) (by omega) (all_cons kR (all_cons kR (all_cons kR (all_cons kR (all_cons kR (all_cons kR (all_cons kR all_nil))))))) kR (bcons rfl (bcons rfl (bcons rfl (bcons rfl (bcons (beq (by rw [hj1, ← bitJ_no fb6]; rfl)) rfl)))))
     ·have lb6 : (m % 18446744073709551616) &&& bt k2x3 ≠ 0 := of_decide_eq_true hb6.symm
      have fb6 :  m / 2 ^ (255 - (192 + k2x3)) % 2 = 1 := by
       have q := and_bt (m % 18446744073709551616) k2x3 (by omega)
       have q2 := word_bit0 m k2x3 (by omega)
       rw [show 64 * 0 + (63 - k2x3) = 255 - (192 + k2x3) by omega] at q2
       rw [← q2]
       exact q.1 lb6
      refine sT <| Sy.region ?_
      refine sS (tv j1.x.val j1.y.val j1.z.val) (qL 4 g6 0 12 127 127 (tcs j1.x.val j1.y.val j1.z.val) rfl Tryz.underlying127) <| sS (fv u.val) (qL 2 g4 0 4 89 89 (fcs u.val) rfl Tryz.underlying89) <| sS (fv v.val) (qL 3 g5 0 4 89 89 (fcs v.val) rfl Tryz.underlying89) ?_
      obtain ⟨j2, hj2⟩ : ∃ z : J, z = plusR j1 u v := ⟨_, rfl⟩
      refine sS (tv j2.x.val j2.y.val j2.z.val) (qF 92 #[tv j1.x.val j1.y.val j1.z.val, fv u.val, fv v.val] (fun w => by rw [hj2]; exact plusR_c w j1 u v)) <| sW 4 g6 127 (tcs j1.x.val j1.y.val j1.z.val) (tcs j2.x.val j2.y.val j2.z.val) (wS 0 127 (tcs j2.x.val j2.y.val j2.z.val) rfl) ?_
      refine Sy.nil <| Sy.in_ <| Sy.then_ <| Sy.region ?_
      refine sP (.int .u64 ((bt k2x3 : Nat) : Int)) <| sS (.int .u64 ((bt (k2x3 + 1) : Nat) : Int)) (Quiet.pure (exec_int .quo _ _ _ .u64 _ _ _ rfl rfl rfl (int_quo _ _ _ _ _ (by decide) (by rw [← bt_next]; have := bt_le k2x3; rw [show ((bt k2x3 : Nat) : Int).tdiv 2 = ((bt k2x3 / 2 : Nat) : Int) from rfl]; exact wrap_u64 (by omega) (by omega))))) <| sP (.int .u64 ((bt (k2x3 + 1) : Nat) : Int)) ?_
      refine Sy.nil ?_
      exact Sy.againK [true, true, true, true, true] (M := [(g2, 52, (pcs 0 0 false)), (g3, 89, (fcs m)), (g4, 89, (fcs u.val)), (g5, 89, (fcs v.val)), (g6, 127, (tcs j2.x.val j2.y.val j2.z.val))]) (by omega) (all_cons kR (all_cons kR (all_cons kR (all_cons kR (all_cons kR (all_cons kR (all_cons kR all_nil))))))) kR (bcons rfl (bcons rfl (bcons rfl (bcons rfl (bcons (beq (by rw [hj2, hj1, ← bitJ_yes fb6]; rfl)) rfl)))))
   ·have lb3 : k2x2 < 64 := of_decide_eq_true hb3.symm
    refine sT <| Sy.skip <| Sy.then_ <| Sy.seq <| Sy.block <| sC ?_
    refine sS (tv ((bitJ m u v (128 + k2x2)).x.val) ((bitJ m u v (128 + k2x2)).y.val) ((bitJ m u v (128 + k2x2)).z.val)) (qL 4 g6 0 12 127 127 (tcs ((bitJ m u v (128 + k2x2)).x.val) ((bitJ m u v (128 + k2x2)).y.val) ((bitJ m u v (128 + k2x2)).z.val)) rfl Tryz.underlying127) ?_
    obtain ⟨j3, hj3⟩ : ∃ z : J, z = dblR (bitJ m u v (128 + k2x2)) := ⟨_, rfl⟩
    refine sS (tv j3.x.val j3.y.val j3.z.val) (qF 91 #[tv ((bitJ m u v (128 + k2x2)).x.val) ((bitJ m u v (128 + k2x2)).y.val) ((bitJ m u v (128 + k2x2)).z.val)] (fun w => by rw [hj3]; exact twiceR_c w (bitJ m u v (128 + k2x2)))) <| sW 4 g6 127 (tcs ((bitJ m u v (128 + k2x2)).x.val) ((bitJ m u v (128 + k2x2)).y.val) ((bitJ m u v (128 + k2x2)).z.val)) (tcs j3.x.val j3.y.val j3.z.val) (wS 0 127 (tcs j3.x.val j3.y.val j3.z.val) rfl) ?_
    refine sA ?_
    refine sP (.int .i64 1) <| sP (.pointer (some ⟨g3, 1, none⟩)) <| sS (qv (m / 18446744073709551616 % 18446744073709551616)) (qC 1 g3 1 89 22 (fcs m) rfl Tryz.underlying22) <| sP (.int .u64 ((bt k2x2 : Nat) : Int)) <| sS (.int .u64 (((m / 18446744073709551616 % 18446744073709551616) &&& bt k2x2 : Nat) : Int)) (Quiet.pure (exec_and _ _ _ _ _ (m / 18446744073709551616 % 18446744073709551616) (bt k2x2) (Nat.mod_lt _ (by decide)) (bt_le _) rfl rfl rfl)) ?_
    obtain ⟨b7, hb7⟩ : ∃ z : Bool, z = decide ((m / 18446744073709551616 % 18446744073709551616) &&& bt k2x2 ≠ 0) := ⟨_, rfl⟩
    refine sS (.bool b7) (Quiet.pure (exec_int .neq _ _ _ .u64 _ _ _ rfl rfl rfl (int_neq _ _ _ _ _ (by rw [hb7]; exact decide_eq_decide.2 (by omega))))) ?_
    refine sG ?_
    cases b7
    ·have lb7 : ¬ ((m / 18446744073709551616 % 18446744073709551616) &&& bt k2x2 ≠ 0) := of_decide_eq_false hb7.symm
     have fb7 : ¬ m / 2 ^ (255 - (128 + k2x2)) % 2 = 1 := by
      have q := and_bt (m / 18446744073709551616 % 18446744073709551616) k2x2 (by omega)
      have q2 := word_bit m 1 k2x2 (by omega)
      rw [show 64 * 1 + (63 - k2x2) = 255 - (128 + k2x2) by omega] at q2
      rw [← q2]
      exact fun t => lb7 (q.2 t)
     refine sU <| Sy.skip <| Sy.in_ <| Sy.then_ <| Sy.region ?_
     refine sP (.int .u64 ((bt k2x2 : Nat) : Int)) <| sS (.int .u64 ((bt (k2x2 + 1) : Nat) : Int)) (Quiet.pure (exec_int .quo _ _ _ .u64 _ _ _ rfl rfl rfl (int_quo _ _ _ _ _ (by decide) (by rw [← bt_next]; have := bt_le k2x2; rw [show ((bt k2x2 : Nat) : Int).tdiv 2 = ((bt k2x2 / 2 : Nat) : Int) from rfl]; exact wrap_u64 (by omega) (by omega))))) <| sP (.int .u64 ((bt (k2x2 + 1) : Nat) : Int)) ?_
     refine Sy.nil ?_
     exact Sy.againK [true, true, true, true, true] (M := [(g2, 52, (pcs 0 0 false)), (g3, 89, (fcs m)), (g4, 89, (fcs u.val)), (g5, 89, (fcs v.val)), (g6, 127, (tcs j3.x.val j3.y.val j3.z.val))]) (by omega) (all_cons kR (all_cons kR (all_cons kR (all_cons kR (all_cons kR (all_cons kR (all_cons kR all_nil))))))) kR (bcons rfl (bcons rfl (bcons rfl (bcons rfl (bcons (beq (by rw [hj3, ← bitJ_no fb7]; rfl)) rfl)))))
    ·have lb7 : (m / 18446744073709551616 % 18446744073709551616) &&& bt k2x2 ≠ 0 := of_decide_eq_true hb7.symm
     have fb7 :  m / 2 ^ (255 - (128 + k2x2)) % 2 = 1 := by
      have q := and_bt (m / 18446744073709551616 % 18446744073709551616) k2x2 (by omega)
      have q2 := word_bit m 1 k2x2 (by omega)
      rw [show 64 * 1 + (63 - k2x2) = 255 - (128 + k2x2) by omega] at q2
      rw [← q2]
      exact q.1 lb7
     refine sT <| Sy.region ?_
     refine sS (tv j3.x.val j3.y.val j3.z.val) (qL 4 g6 0 12 127 127 (tcs j3.x.val j3.y.val j3.z.val) rfl Tryz.underlying127) <| sS (fv u.val) (qL 2 g4 0 4 89 89 (fcs u.val) rfl Tryz.underlying89) <| sS (fv v.val) (qL 3 g5 0 4 89 89 (fcs v.val) rfl Tryz.underlying89) ?_
     obtain ⟨j4, hj4⟩ : ∃ z : J, z = plusR j3 u v := ⟨_, rfl⟩
     refine sS (tv j4.x.val j4.y.val j4.z.val) (qF 92 #[tv j3.x.val j3.y.val j3.z.val, fv u.val, fv v.val] (fun w => by rw [hj4]; exact plusR_c w j3 u v)) <| sW 4 g6 127 (tcs j3.x.val j3.y.val j3.z.val) (tcs j4.x.val j4.y.val j4.z.val) (wS 0 127 (tcs j4.x.val j4.y.val j4.z.val) rfl) ?_
     refine Sy.nil <| Sy.in_ <| Sy.then_ <| Sy.region ?_
     refine sP (.int .u64 ((bt k2x2 : Nat) : Int)) <| sS (.int .u64 ((bt (k2x2 + 1) : Nat) : Int)) (Quiet.pure (exec_int .quo _ _ _ .u64 _ _ _ rfl rfl rfl (int_quo _ _ _ _ _ (by decide) (by rw [← bt_next]; have := bt_le k2x2; rw [show ((bt k2x2 : Nat) : Int).tdiv 2 = ((bt k2x2 / 2 : Nat) : Int) from rfl]; exact wrap_u64 (by omega) (by omega))))) <| sP (.int .u64 ((bt (k2x2 + 1) : Nat) : Int)) ?_
     refine Sy.nil ?_
     exact Sy.againK [true, true, true, true, true] (M := [(g2, 52, (pcs 0 0 false)), (g3, 89, (fcs m)), (g4, 89, (fcs u.val)), (g5, 89, (fcs v.val)), (g6, 127, (tcs j4.x.val j4.y.val j4.z.val))]) (by omega) (all_cons kR (all_cons kR (all_cons kR (all_cons kR (all_cons kR (all_cons kR (all_cons kR all_nil))))))) kR (bcons rfl (bcons rfl (bcons rfl (bcons rfl (bcons (beq (by rw [hj4, hj3, ← bitJ_yes fb7]; rfl)) rfl)))))
  ·have lb2 : k2x1 < 64 := of_decide_eq_true hb2.symm
   refine sT <| Sy.skip <| Sy.then_ <| Sy.seq <| Sy.block <| sC ?_
   refine sS (tv ((bitJ m u v (64 + k2x1)).x.val) ((bitJ m u v (64 + k2x1)).y.val) ((bitJ m u v (64 + k2x1)).z.val)) (qL 4 g6 0 12 127 127 (tcs ((bitJ m u v (64 + k2x1)).x.val) ((bitJ m u v (64 + k2x1)).y.val) ((bitJ m u v (64 + k2x1)).z.val)) rfl Tryz.underlying127) ?_
   obtain ⟨j5, hj5⟩ : ∃ z : J, z = dblR (bitJ m u v (64 + k2x1)) := ⟨_, rfl⟩
   refine sS (tv j5.x.val j5.y.val j5.z.val) (qF 91 #[tv ((bitJ m u v (64 + k2x1)).x.val) ((bitJ m u v (64 + k2x1)).y.val) ((bitJ m u v (64 + k2x1)).z.val)] (fun w => by rw [hj5]; exact twiceR_c w (bitJ m u v (64 + k2x1)))) <| sW 4 g6 127 (tcs ((bitJ m u v (64 + k2x1)).x.val) ((bitJ m u v (64 + k2x1)).y.val) ((bitJ m u v (64 + k2x1)).z.val)) (tcs j5.x.val j5.y.val j5.z.val) (wS 0 127 (tcs j5.x.val j5.y.val j5.z.val) rfl) ?_
   refine sA ?_
   refine sP (.int .i64 2) <| sP (.pointer (some ⟨g3, 2, none⟩)) <| sS (qv (m / 340282366920938463463374607431768211456 % 18446744073709551616)) (qC 1 g3 2 89 22 (fcs m) rfl Tryz.underlying22) <| sP (.int .u64 ((bt k2x1 : Nat) : Int)) <| sS (.int .u64 (((m / 340282366920938463463374607431768211456 % 18446744073709551616) &&& bt k2x1 : Nat) : Int)) (Quiet.pure (exec_and _ _ _ _ _ (m / 340282366920938463463374607431768211456 % 18446744073709551616) (bt k2x1) (Nat.mod_lt _ (by decide)) (bt_le _) rfl rfl rfl)) ?_
   obtain ⟨b8, hb8⟩ : ∃ z : Bool, z = decide ((m / 340282366920938463463374607431768211456 % 18446744073709551616) &&& bt k2x1 ≠ 0) := ⟨_, rfl⟩
   refine sS (.bool b8) (Quiet.pure (exec_int .neq _ _ _ .u64 _ _ _ rfl rfl rfl (int_neq _ _ _ _ _ (by rw [hb8]; exact decide_eq_decide.2 (by omega))))) ?_
   refine sG ?_
   cases b8
   ·have lb8 : ¬ ((m / 340282366920938463463374607431768211456 % 18446744073709551616) &&& bt k2x1 ≠ 0) := of_decide_eq_false hb8.symm
    have fb8 : ¬ m / 2 ^ (255 - (64 + k2x1)) % 2 = 1 := by
     have q := and_bt (m / 340282366920938463463374607431768211456 % 18446744073709551616) k2x1 (by omega)
     have q2 := word_bit m 2 k2x1 (by omega)
     rw [show 64 * 2 + (63 - k2x1) = 255 - (64 + k2x1) by omega] at q2
     rw [← q2]
     exact fun t => lb8 (q.2 t)
    refine sU <| Sy.skip <| Sy.in_ <| Sy.then_ <| Sy.region ?_
    refine sP (.int .u64 ((bt k2x1 : Nat) : Int)) <| sS (.int .u64 ((bt (k2x1 + 1) : Nat) : Int)) (Quiet.pure (exec_int .quo _ _ _ .u64 _ _ _ rfl rfl rfl (int_quo _ _ _ _ _ (by decide) (by rw [← bt_next]; have := bt_le k2x1; rw [show ((bt k2x1 : Nat) : Int).tdiv 2 = ((bt k2x1 / 2 : Nat) : Int) from rfl]; exact wrap_u64 (by omega) (by omega))))) <| sP (.int .u64 ((bt (k2x1 + 1) : Nat) : Int)) ?_
    refine Sy.nil ?_
    exact Sy.againK [true, true, true, true, true] (M := [(g2, 52, (pcs 0 0 false)), (g3, 89, (fcs m)), (g4, 89, (fcs u.val)), (g5, 89, (fcs v.val)), (g6, 127, (tcs j5.x.val j5.y.val j5.z.val))]) (by omega) (all_cons kR (all_cons kR (all_cons kR (all_cons kR (all_cons kR (all_cons kR (all_cons kR all_nil))))))) kR (bcons rfl (bcons rfl (bcons rfl (bcons rfl (bcons (beq (by rw [hj5, ← bitJ_no fb8]; rfl)) rfl)))))
   ·have lb8 : (m / 340282366920938463463374607431768211456 % 18446744073709551616) &&& bt k2x1 ≠ 0 := of_decide_eq_true hb8.symm
    have fb8 :  m / 2 ^ (255 - (64 + k2x1)) % 2 = 1 := by
     have q := and_bt (m / 340282366920938463463374607431768211456 % 18446744073709551616) k2x1 (by omega)
     have q2 := word_bit m 2 k2x1 (by omega)
     rw [show 64 * 2 + (63 - k2x1) = 255 - (64 + k2x1) by omega] at q2
     rw [← q2]
     exact q.1 lb8
    refine sT <| Sy.region ?_
    refine sS (tv j5.x.val j5.y.val j5.z.val) (qL 4 g6 0 12 127 127 (tcs j5.x.val j5.y.val j5.z.val) rfl Tryz.underlying127) <| sS (fv u.val) (qL 2 g4 0 4 89 89 (fcs u.val) rfl Tryz.underlying89) <| sS (fv v.val) (qL 3 g5 0 4 89 89 (fcs v.val) rfl Tryz.underlying89) ?_
    obtain ⟨j6, hj6⟩ : ∃ z : J, z = plusR j5 u v := ⟨_, rfl⟩
    refine sS (tv j6.x.val j6.y.val j6.z.val) (qF 92 #[tv j5.x.val j5.y.val j5.z.val, fv u.val, fv v.val] (fun w => by rw [hj6]; exact plusR_c w j5 u v)) <| sW 4 g6 127 (tcs j5.x.val j5.y.val j5.z.val) (tcs j6.x.val j6.y.val j6.z.val) (wS 0 127 (tcs j6.x.val j6.y.val j6.z.val) rfl) ?_
    refine Sy.nil <| Sy.in_ <| Sy.then_ <| Sy.region ?_
    refine sP (.int .u64 ((bt k2x1 : Nat) : Int)) <| sS (.int .u64 ((bt (k2x1 + 1) : Nat) : Int)) (Quiet.pure (exec_int .quo _ _ _ .u64 _ _ _ rfl rfl rfl (int_quo _ _ _ _ _ (by decide) (by rw [← bt_next]; have := bt_le k2x1; rw [show ((bt k2x1 : Nat) : Int).tdiv 2 = ((bt k2x1 / 2 : Nat) : Int) from rfl]; exact wrap_u64 (by omega) (by omega))))) <| sP (.int .u64 ((bt (k2x1 + 1) : Nat) : Int)) ?_
    refine Sy.nil ?_
    exact Sy.againK [true, true, true, true, true] (M := [(g2, 52, (pcs 0 0 false)), (g3, 89, (fcs m)), (g4, 89, (fcs u.val)), (g5, 89, (fcs v.val)), (g6, 127, (tcs j6.x.val j6.y.val j6.z.val))]) (by omega) (all_cons kR (all_cons kR (all_cons kR (all_cons kR (all_cons kR (all_cons kR (all_cons kR all_nil))))))) kR (bcons rfl (bcons rfl (bcons rfl (bcons rfl (bcons (beq (by rw [hj6, hj5, ← bitJ_yes fb8]; rfl)) rfl)))))
 ·have lb1 : k2x0 < 64 := of_decide_eq_true hb1.symm
  refine sT <| Sy.skip <| Sy.then_ <| Sy.seq <| Sy.block <| sC ?_
  refine sS (tv ((bitJ m u v (0 + k2x0)).x.val) ((bitJ m u v (0 + k2x0)).y.val) ((bitJ m u v (0 + k2x0)).z.val)) (qL 4 g6 0 12 127 127 (tcs ((bitJ m u v (0 + k2x0)).x.val) ((bitJ m u v (0 + k2x0)).y.val) ((bitJ m u v (0 + k2x0)).z.val)) rfl Tryz.underlying127) ?_
  obtain ⟨j7, hj7⟩ : ∃ z : J, z = dblR (bitJ m u v (0 + k2x0)) := ⟨_, rfl⟩
  refine sS (tv j7.x.val j7.y.val j7.z.val) (qF 91 #[tv ((bitJ m u v (0 + k2x0)).x.val) ((bitJ m u v (0 + k2x0)).y.val) ((bitJ m u v (0 + k2x0)).z.val)] (fun w => by rw [hj7]; exact twiceR_c w (bitJ m u v (0 + k2x0)))) <| sW 4 g6 127 (tcs ((bitJ m u v (0 + k2x0)).x.val) ((bitJ m u v (0 + k2x0)).y.val) ((bitJ m u v (0 + k2x0)).z.val)) (tcs j7.x.val j7.y.val j7.z.val) (wS 0 127 (tcs j7.x.val j7.y.val j7.z.val) rfl) ?_
  refine sA ?_
  refine sP (.int .i64 3) <| sP (.pointer (some ⟨g3, 3, none⟩)) <| sS (qv (m / 6277101735386680763835789423207666416102355444464034512896 % 18446744073709551616)) (qC 1 g3 3 89 22 (fcs m) rfl Tryz.underlying22) <| sP (.int .u64 ((bt k2x0 : Nat) : Int)) <| sS (.int .u64 (((m / 6277101735386680763835789423207666416102355444464034512896 % 18446744073709551616) &&& bt k2x0 : Nat) : Int)) (Quiet.pure (exec_and _ _ _ _ _ (m / 6277101735386680763835789423207666416102355444464034512896 % 18446744073709551616) (bt k2x0) (Nat.mod_lt _ (by decide)) (bt_le _) rfl rfl rfl)) ?_
  obtain ⟨b9, hb9⟩ : ∃ z : Bool, z = decide ((m / 6277101735386680763835789423207666416102355444464034512896 % 18446744073709551616) &&& bt k2x0 ≠ 0) := ⟨_, rfl⟩
  refine sS (.bool b9) (Quiet.pure (exec_int .neq _ _ _ .u64 _ _ _ rfl rfl rfl (int_neq _ _ _ _ _ (by rw [hb9]; exact decide_eq_decide.2 (by omega))))) ?_
  refine sG ?_
  cases b9
  ·have lb9 : ¬ ((m / 6277101735386680763835789423207666416102355444464034512896 % 18446744073709551616) &&& bt k2x0 ≠ 0) := of_decide_eq_false hb9.symm
   have fb9 : ¬ m / 2 ^ (255 - (0 + k2x0)) % 2 = 1 := by
    have q := and_bt (m / 6277101735386680763835789423207666416102355444464034512896 % 18446744073709551616) k2x0 (by omega)
    have q2 := word_bit m 3 k2x0 (by omega)
    rw [show 64 * 3 + (63 - k2x0) = 255 - (0 + k2x0) by omega] at q2
    rw [← q2]
    exact fun t => lb9 (q.2 t)
   refine sU <| Sy.skip <| Sy.in_ <| Sy.then_ <| Sy.region ?_
   refine sP (.int .u64 ((bt k2x0 : Nat) : Int)) <| sS (.int .u64 ((bt (k2x0 + 1) : Nat) : Int)) (Quiet.pure (exec_int .quo _ _ _ .u64 _ _ _ rfl rfl rfl (int_quo _ _ _ _ _ (by decide) (by rw [← bt_next]; have := bt_le k2x0; rw [show ((bt k2x0 : Nat) : Int).tdiv 2 = ((bt k2x0 / 2 : Nat) : Int) from rfl]; exact wrap_u64 (by omega) (by omega))))) <| sP (.int .u64 ((bt (k2x0 + 1) : Nat) : Int)) ?_
   refine Sy.nil ?_
   exact Sy.againK [true, true, true, true, true] (M := [(g2, 52, (pcs 0 0 false)), (g3, 89, (fcs m)), (g4, 89, (fcs u.val)), (g5, 89, (fcs v.val)), (g6, 127, (tcs j7.x.val j7.y.val j7.z.val))]) (by omega) (all_cons kR (all_cons kR (all_cons kR (all_cons kR (all_cons kR (all_cons kR (all_cons kR all_nil))))))) kR (bcons rfl (bcons rfl (bcons rfl (bcons rfl (bcons (beq (by rw [hj7, ← bitJ_no fb9]; rfl)) rfl)))))
  ·have lb9 : (m / 6277101735386680763835789423207666416102355444464034512896 % 18446744073709551616) &&& bt k2x0 ≠ 0 := of_decide_eq_true hb9.symm
   have fb9 :  m / 2 ^ (255 - (0 + k2x0)) % 2 = 1 := by
    have q := and_bt (m / 6277101735386680763835789423207666416102355444464034512896 % 18446744073709551616) k2x0 (by omega)
    have q2 := word_bit m 3 k2x0 (by omega)
    rw [show 64 * 3 + (63 - k2x0) = 255 - (0 + k2x0) by omega] at q2
    rw [← q2]
    exact q.1 lb9
   refine sT <| Sy.region ?_
   refine sS (tv j7.x.val j7.y.val j7.z.val) (qL 4 g6 0 12 127 127 (tcs j7.x.val j7.y.val j7.z.val) rfl Tryz.underlying127) <| sS (fv u.val) (qL 2 g4 0 4 89 89 (fcs u.val) rfl Tryz.underlying89) <| sS (fv v.val) (qL 3 g5 0 4 89 89 (fcs v.val) rfl Tryz.underlying89) ?_
   obtain ⟨j8, hj8⟩ : ∃ z : J, z = plusR j7 u v := ⟨_, rfl⟩
   refine sS (tv j8.x.val j8.y.val j8.z.val) (qF 92 #[tv j7.x.val j7.y.val j7.z.val, fv u.val, fv v.val] (fun w => by rw [hj8]; exact plusR_c w j7 u v)) <| sW 4 g6 127 (tcs j7.x.val j7.y.val j7.z.val) (tcs j8.x.val j8.y.val j8.z.val) (wS 0 127 (tcs j8.x.val j8.y.val j8.z.val) rfl) ?_
   refine Sy.nil <| Sy.in_ <| Sy.then_ <| Sy.region ?_
   refine sP (.int .u64 ((bt k2x0 : Nat) : Int)) <| sS (.int .u64 ((bt (k2x0 + 1) : Nat) : Int)) (Quiet.pure (exec_int .quo _ _ _ .u64 _ _ _ rfl rfl rfl (int_quo _ _ _ _ _ (by decide) (by rw [← bt_next]; have := bt_le k2x0; rw [show ((bt k2x0 : Nat) : Int).tdiv 2 = ((bt k2x0 / 2 : Nat) : Int) from rfl]; exact wrap_u64 (by omega) (by omega))))) <| sP (.int .u64 ((bt (k2x0 + 1) : Nat) : Int)) ?_
   refine Sy.nil ?_
   exact Sy.againK [true, true, true, true, true] (M := [(g2, 52, (pcs 0 0 false)), (g3, 89, (fcs m)), (g4, 89, (fcs u.val)), (g5, 89, (fcs v.val)), (g6, 127, (tcs j8.x.val j8.y.val j8.z.val))]) (by omega) (all_cons kR (all_cons kR (all_cons kR (all_cons kR (all_cons kR (all_cons kR (all_cons kR all_nil))))))) kR (bcons rfl (bcons rfl (bcons rfl (bcons rfl (bcons (beq (by rw [hj8, hj7, ← bitJ_yes fb9]; rfl)) rfl)))))
theorem mulRe_any (w : World) (k x y : Nat) (i : Bool) (hk : k < K4) (hx : x < K4) (hy : y < K4) : Calls Tryz.prog 42 #[fv k, pv x y i] w (Gets w (ptv (Ec.nm finv (k % Sc.pM) (dec x y i)))) := by
 have o1 := dec_on x y i
 rcases h : dec x y i with _ | ⟨u, v⟩
 ·rw [Ec.nm_none]
  exact mulRe_none w k x y i hk hx hy h
 ·rw [h] at o1
  exact mulRe_some w k x y i hk hx hy u v h o1
end Go.Proofs.YtbofhoonlmikcaaGreatDoor.Cu

end
section
namespace Go.Proofs.YtbofhoonlmikcaaGreatDoor.Cu
open Go.RowKit Go.Proofs.YtbofhoonlmikcaaGreatDoor Go.Proofs.YtbofhoonlmikcaaGreatDoor.Sy
set_option maxRecDepth 100000
set_option maxHeartbeats 4000000

theorem own_cell {w : World} {g : Nat} {t : TypeId} {m : List UInt8} {sp : List Value} (hb : Blk w g t (m.map bv ++ sp).toArray) (j : Nat) (u : UInt8) (hj : m[j]? = some u) : w.cell? ⟨g, j, none⟩ = some (bv u) := by
 refine (hb.cell j).trans ?_
 have hl := (List.getElem?_eq_some_iff.1 hj).1
 rw [List.getElem?_toArray, List.getElem?_append_left (by rw [List.length_map]; exact hl), List.getElem?_map, hj]
 rfl
theorem nsc_any (w : World) (a : Nat) (ha : a < K4) : Calls Tryz.prog 73 #[fv a] w (Gets w (fv (a % Sc.pM))) := by
 refine Sy.enter (args := [fv a]) Tryz.func73 rfl kL ?_
 refine sC ?_
 refine sM 24 (fcs a) (fun g0 => ?_)
 refine sM 24 (fcs 0) (fun g1 => ?_)
 refine sH (fun j => j == 5) ?_
 refine sD 0 rfl (.agg modN) (qF 76 #[] (Sc.refN_any)) <| sD 1 rfl (fv a) (qL 0 g0 0 4 24 24 (fcs a) rfl Tryz.underlying24) <| sD 2 rfl (fv a) (qF 77 #[fv a] (fun w => Sc.refOf_any w a (by first | assumption | exact Sc.mod_lt _ | exact lt4 _ | exact valB_lt32 _ (by first | assumption | exact bytesS_length _) | decide +kernel))) <| sD 3 rfl (fv (a % Sc.pM)) (qF 89 #[.agg modN, fv a] (fun w => Sc.normR_any w a (by first | assumption | exact Sc.mod_lt _ | exact lt4 _ | exact valB_lt32 _ (by first | assumption | exact bytesS_length _) | decide +kernel))) <| sD 4 rfl (fv (a % Sc.pM)) (qF 74 #[fv (a % Sc.pM)] (fun w => Sc.refSc_any w (a % Sc.pM) (by first | assumption | exact Sc.mod_lt _ | exact lt4 _ | exact valB_lt32 _ (by first | assumption | exact bytesS_length _) | decide +kernel))) <| sX 5 rfl 1 g1 24 (fcs 0) (fcs (a % Sc.pM)) (wS 0 24 (fcs (a % Sc.pM)) rfl) ?_
 refine sI ?_
 refine Sy.ret ?_
 exact rC (v := fv (a % Sc.pM)) 24 g1 1 (fcs (a % Sc.pM)) rfl Tryz.underlying24
theorem rsc_any (w : World) (l : List UInt8) (hl : l.length = 32) : Calls Tryz.prog 100 #[.agg (l.map bv).toArray] w (Gets w (fv (valB l % Sc.pM))) := by
 refine Sy.enter (args := [.agg (l.map bv).toArray]) Tryz.func100 rfl kL ?_
 refine sC ?_
 refine sM 47 (l.map bv).toArray (fun g0 => ?_)
 refine sM 24 (fcs 0) (fun g1 => ?_)
 refine sA ?_
 refine sS (.agg (l.map bv).toArray) (Quiet.load 0 g0 0 32 47 47 (l.map bv).toArray _ _ rfl kR kR Tryz.underlying47 rfl kR _ (key_whole l hl) (key_size l hl)) ?_
 refine Sy.callN kR 98 #[.agg (l.map bv).toArray] kF (fun vq Mq => ∃ (g : Nat) (sp : List Value) (cap : Nat), vq = .slice (some ⟨g, 0, none⟩) 32 cap ∧ (32 ≤ cap ∧ cap ≤ 9223372036854775807) ∧ Mq = [(g, 5, (l.map bv ++ sp).toArray)]) (fun w _ => textN_any w l hl) (fun vq Mq hR0 => ?_)
 obtain ⟨go1, spo1, cpo1, rfl, hcpo1, rfl⟩ := hR0
 refine sS (fv (valB l)) (qG 54 #[.slice (some ⟨go1, 0, none⟩) 32 cpo1] (fun w hw => numberR_any w go1 cpo1 l hl (hw.get (i := 2) rfl).lt (own_cell (hw.get (i := 2) rfl)) hcpo1.1 hcpo1.2)) <| sS (fv (valB l)) (qF 74 #[fv (valB l)] (fun w => Sc.refSc_any w (valB l) (by first | assumption | exact Sc.mod_lt _ | exact lt4 _ | exact valB_lt32 _ (by first | assumption | exact bytesS_length _) | decide +kernel))) <| sS (fv ((valB l) % Sc.pM)) (qF 73 #[fv (valB l)] (fun w => nsc_any w (valB l) (by first | assumption | exact Sc.mod_lt _ | exact lt4 _ | exact valB_lt32 _ (by first | assumption | exact bytesS_length _) | decide +kernel))) <| sW 1 g1 24 (fcs 0) (fcs ((valB l) % Sc.pM)) (wS 0 24 (fcs ((valB l) % Sc.pM)) rfl) ?_
 refine sG <| Sy.ret ?_
 exact rC (v := fv ((valB l) % Sc.pM)) 24 g1 1 (fcs ((valB l) % Sc.pM)) rfl Tryz.underlying24
end Go.Proofs.YtbofhoonlmikcaaGreatDoor.Cu

end
section
namespace Go.Proofs.YtbofhoonlmikcaaGreatDoor.Cu
open Go.RowKit Go.Proofs.YtbofhoonlmikcaaGreatDoor Go.Proofs.YtbofhoonlmikcaaGreatDoor.Sy
set_option maxRecDepth 100000
set_option maxHeartbeats 4000000

theorem key_sym {l : List UInt8} {n : Nat} (h : l.length = n) {k o : Nat} (hk : k < n) (ho : o = k) : ((l.map bv).toArray)[o]? = some (bv (l.getD k 0)) := by
 subst h ho
 rw [List.getElem?_toArray, List.getElem?_map, List.getD_eq_getElem?_getD, List.getElem?_eq_getElem hk]
 rfl
theorem cat_get1 {X Y : List UInt8} {n k : Nat} (hX : X.length = n) (hk : k < n) : (X ++ Y).getD k 0 = X.getD k 0 := by
 rw [List.getD_eq_getElem?_getD, List.getD_eq_getElem?_getD, List.getElem?_append_left (by omega)]
theorem cat_get2 {X Y : List UInt8} {n k : Nat} (hX : X.length = n) : (X ++ Y).getD (n + k) 0 = Y.getD k 0 := by
 rw [List.getD_eq_getElem?_getD, List.getD_eq_getElem?_getD, List.getElem?_append_right (by omega), hX, Nat.add_sub_cancel_left]
theorem red_any (w : World) (nm : ByteArray) (hnm : nm.size ≤ 1000000000) (T : Option Addr) (ts : List Sh.Tx) (n ct : Nat) (hn : ts.length = n) (hn2 : n ≤ 1000000000) (hT : Sh.Texts w T ts) (htr : Sh.TabAt w 0) (hm : (Sh.cat ts).length ≤ 1000000000) : Calls Tryz.prog 47 #[.string nm, .slice T n ct] w (Gets w (fv (valB (Sh.taggedS nm.data.toList (Sh.cat ts)) % Sc.pM))) := by
 refine Sy.enter (args := [.string nm, .slice T n ct]) Tryz.func47 rfl kL ?_
 refine sC ?_
 refine sM 24 (fcs 0) (fun g0 => ?_)
 refine sA ?_
 refine sP (.string nm) <| sP (.slice T n ct) <| sS (.agg ((Sh.taggedS nm.data.toList (Sh.cat ts)).map bv).toArray) (qG 46 #[.string nm, .slice T n ct] (fun w hw => by have q := Sh.taggedR_any w nm T ts ct (hT.below hw.below) (htr.below hw.below htr.lt) hnm hm (by omega); rw [hn] at q; exact q)) <| sS (fv (valB (Sh.taggedS nm.data.toList (Sh.cat ts)) % Sc.pM)) (qF 100 #[.agg ((Sh.taggedS nm.data.toList (Sh.cat ts)).map bv).toArray] (fun w => rsc_any w (Sh.taggedS nm.data.toList (Sh.cat ts)) (tagS_length _ _))) <| sW 0 g0 24 (fcs 0) (fcs (valB (Sh.taggedS nm.data.toList (Sh.cat ts)) % Sc.pM)) (wS 0 24 (fcs (valB (Sh.taggedS nm.data.toList (Sh.cat ts)) % Sc.pM)) rfl) ?_
 refine sG <| Sy.ret ?_
 exact rC (v := fv (valB (Sh.taggedS nm.data.toList (Sh.cat ts)) % Sc.pM)) 24 g0 0 (fcs (valB (Sh.taggedS nm.data.toList (Sh.cat ts)) % Sc.pM)) rfl Tryz.underlying24
theorem rdR_any (w : World) (g cp : Nat) (l : List UInt8) (hl : l.length = 32) (hg : g < w.heap.size) (hc : ∀ j u, l[j]? = some u → w.cell? ⟨g, j, none⟩ = some (bv u)) (h1 : 32 ≤ cp) (h2 : cp ≤ 9223372036854775807) : Calls Tryz.prog 57 #[.slice (some ⟨g, 0, none⟩) 32 cp] w (Gets w (.tuple #[fv (Sc.readS l).1, .bool (Sc.readS l).2])) := by
 refine Sy.enter (args := [.slice (some ⟨g, 0, none⟩) 32 cp]) Tryz.func57 rfl kL ?_
 refine sC ?_
 refine sM 24 (fcs 0) (fun g0 => ?_)
 refine sP (.bool false) ?_
 refine sA ?_
 refine sP (.slice (some ⟨g, 0, none⟩) 32 cp) <| sS (fv (valB l)) (qG 54 #[.slice (some ⟨g, 0, none⟩) 32 cp] (fun w hw => numberR_any w g cp l hl (Nat.lt_of_lt_of_le hg hw.below.size) (fun j u hj => (Below.cell (p := ⟨g, j, none⟩) hw.below hg).trans (hc j u hj)) h1 h2)) ?_
 refine sM 89 (fcs 0) (fun g1 => ?_)
 refine sW 1 g1 89 (fcs 0) (fcs (valB l)) (wS 0 89 (fcs (valB l)) rfl) ?_
 refine sH (fun j => false) ?_
 refine sD 0 rfl (.agg modN) (qF 76 #[] (Sc.refN_any)) <| sD 1 rfl (fv (valB l)) (qL 1 g1 0 4 89 89 (fcs (valB l)) rfl Tryz.underlying89) ?_
 obtain ⟨b1, hb1⟩ : ∃ z : Bool, z = decide (valB l < Sc.pM) := ⟨_, rfl⟩
 refine sD 2 rfl (.bool b1) (qF 55 #[.agg modN, fv (valB l)] (fun w => by rw [hb1]; exact Sc.rightR_any w (valB l) (valB_lt32 l hl))) <| sZ 3 rfl (.bool b1) ?_
 refine sI ?_
 refine Sy.seq <| sC ?_
 refine sP (.slice (some ⟨g, 0, none⟩) 32 cp) <| sP (.int .i64 32) <| sP (.bool false) <| sP (.bool false) <| sP (.bool b1) ?_
 cases b1
 ·refine sP (.bool true) <| sP (.bool true) ?_
  refine sG <| sT <| sC ?_
  refine sP (fv 0) <| sW 0 g0 24 (fcs 0) (fcs 0) (wS 0 24 (fcs 0) rfl) <| sP (.bool false) ?_
  refine sG <| Sy.ret <| Sy.then_ret ?_
  rw [show (.tuple #[fv (Sc.readS l).1, .bool (Sc.readS l).2] : Value) = .tuple #[fv 0, .bool false] from by unfold Sc.readS; rw [if_neg (of_decide_eq_false hb1.symm)]]
  exact Sy.ret2 (v := fv 0) (u := .bool false) rfl (.inl (Res.cell (ty' := 24) g0 0 (fcs 0) _ kR kR Tryz.underlying24 rfl kR kR)) (.inl (show _ = _ by kernel_rfl))
 ·refine sP (.bool false) <| sP (.bool false) ?_
  refine sG <| sU <| Sy.skip <| sB ?_
  refine sS (fv (valB l)) (qL 1 g1 0 4 89 89 (fcs (valB l)) rfl Tryz.underlying89) <| sS (fv (valB l)) (qF 74 #[fv (valB l)] (fun w => Sc.refSc_any w (valB l) (by first | assumption | exact Sc.mod_lt _ | exact lt4 _ | exact valB_lt32 _ (by first | assumption | exact bytesS_length _) | decide +kernel))) <| sW 0 g0 24 (fcs 0) (fcs (valB l)) (wS 0 24 (fcs (valB l)) rfl) <| sP (.bool true) ?_
  refine sG <| Sy.ret ?_
  rw [show (.tuple #[fv (Sc.readS l).1, .bool (Sc.readS l).2] : Value) = .tuple #[fv (valB l), .bool true] from by unfold Sc.readS; rw [if_pos (of_decide_eq_true hb1.symm)]]
  exact Sy.ret2 (v := fv (valB l)) (u := .bool true) rfl (.inl (Res.cell (ty' := 24) g0 0 (fcs (valB l)) _ kR kR Tryz.underlying24 rfl kR kR)) (.inl (show _ = _ by kernel_rfl))
end Go.Proofs.YtbofhoonlmikcaaGreatDoor.Cu

end
section
namespace Go.Proofs.YtbofhoonlmikcaaGreatDoor.Cu
open Go.RowKit Go.Proofs.YtbofhoonlmikcaaGreatDoor Go.Proofs.YtbofhoonlmikcaaGreatDoor.Sy

theorem evD_some {k : Nat} {x y : Fp} (h : evP k = some (x, y)) : evD k = if y.val % 2 = 1 then Sc.negP k else k := by
 unfold evD
 rw [h]
theorem if_yes {c a b d : Nat} (h : c = 1) (e : a = d) : (if c = 1 then a else b) = d := by rw [if_pos h, e]
theorem if_not {c a b d : Nat} (h : c = 0) (e : b = d) : (if c = 1 then a else b) = d := by rw [if_neg (by omega), e]
theorem signB_of {sec : Nat} {m : List UInt8} {k : Nat} {x y u v : Fp} (hk : nonS sec m = k) (h1 : evP sec = some (x, y)) (h2 : evP k = some (u, v)) : signB sec m = true := by
 unfold signB
 rw [hk, h1, h2]
 rfl
theorem signL_of {sec : Nat} {m X Y : List UInt8} {k d e D z : Nat} (hB : signB sec m = true) (hk : nonS sec m = k) (hd : evD sec = d) (hX : evX (evP k) = X) (hY : evX (evP sec) = Y) (hc : chalS X Y m = e) (hD : evD k = D) (hz : Sc.addP D (Sc.mulP e d) % Sc.pM = z) : signL sec m = X ++ bytesS z := by
 unfold signL
 rw [if_pos hB, hk]
 unfold sigS ansS
 rw [hX, hY, hc, hd, hD, hz]
def k0 : Nat := 13197915491876976259551408334663313131887465579707439106007590226688883891305
set_option maxRecDepth 100000 in
theorem big_3 : 3 % 2 ^ 256 = 3 := by decide +kernel
set_option maxRecDepth 100000 in
theorem chain_3 : gK 3 256 0 0 0 (isK 112711660439710606056748659173929673102114977341539408544630613555209775888121 25583027980570883691656905877401976406448868254816295069919888960541586679410) = true := by decide +kernel
theorem evP_3 : evP 3 = some (fm 112711660439710606056748659173929673102114977341539408544630613555209775888121, fm 25583027980570883691656905877401976406448868254816295069919888960541586679410) := by
 unfold evP
 rw [nm_p bP_on]
 exact gK_some big_3 chain_3
set_option maxRecDepth 100000 in
theorem big_K : k0 % 2 ^ 256 = k0 := by decide +kernel
set_option maxRecDepth 100000 in
theorem chain_K : gK k0 256 0 0 0 (isK 105402166627418795092072804961744245450567089294823101265006251985280030114325 59979214474319322165094783228164233363219353906398054566988269642334758084391) = true := by decide +kernel
theorem evP_K : evP k0 = some (fm 105402166627418795092072804961744245450567089294823101265006251985280030114325, fm 59979214474319322165094783228164233363219353906398054566988269642334758084391) := by
 unfold evP
 rw [nm_p bP_on]
 exact gK_some big_K chain_K
set_option maxRecDepth 100000 in
theorem evD_3 : evD 3 = 3 := by
 unfold evD
 rw [evP_3]
 decide +kernel
theorem evX_3 : evX (evP 3) = bytesS 112711660439710606056748659173929673102114977341539408544630613555209775888121 := by
 rw [evP_3]
 rfl
set_option maxRecDepth 100000 in
theorem odd_K : (fm 59979214474319322165094783228164233363219353906398054566988269642334758084391).val % 2 = 1 := by decide +kernel
set_option maxRecDepth 100000 in
theorem neg_K : Sc.negP k0 = 102594173745439219164019576674024594720950098699367465276597572914829277603032 := by decide +kernel
theorem evD_K : evD k0 = 102594173745439219164019576674024594720950098699367465276597572914829277603032 := (evD_some evP_K).trans (if_yes odd_K neg_K)
theorem evX_K : evX (evP k0) = bytesS 105402166627418795092072804961744245450567089294823101265006251985280030114325 := by
 rw [evP_K]
 rfl
set_option maxRecDepth 100000 in
theorem nonce_3 : nonceS 3 (bytesS 112711660439710606056748659173929673102114977341539408544630613555209775888121) (List.replicate 32 0) = k0 := by decide +kernel
theorem nonS_3 : nonS 3 (List.replicate 32 0) = k0 := by
 unfold nonS
 rw [evD_3, evX_3]
 exact nonce_3
set_option maxRecDepth 100000 in
theorem chal_3 : chalS (bytesS 105402166627418795092072804961744245450567089294823101265006251985280030114325) (bytesS 112711660439710606056748659173929673102114977341539408544630613555209775888121) (List.replicate 32 0) = 48720319366320448218248931228309816100339060958010591740548832691369990260430 := by decide +kernel
theorem signB_3 : signB 3 (List.replicate 32 0) = true := signB_of nonS_3 evP_3 evP_K
set_option maxRecDepth 100000 in
theorem ans_3 : Sc.addP 102594173745439219164019576674024594720950098699367465276597572914829277603032 (Sc.mulP 48720319366320448218248931228309816100339060958010591740548832691369990260430 3) % Sc.pM = 17170953369768172971624400341578227316292153015249431733033744705902925395648 := by decide +kernel
theorem signL_3 : signL 3 (List.replicate 32 0) = bytesS 105402166627418795092072804961744245450567089294823101265006251985280030114325 ++ bytesS 17170953369768172971624400341578227316292153015249431733033744705902925395648 := signL_of signB_3 nonS_3 evD_3 evX_K evX_3 chal_3 evD_K ans_3
end Go.Proofs.YtbofhoonlmikcaaGreatDoor.Cu

end
section
namespace Go.Proofs.YtbofhoonlmikcaaGreatDoor.Cu
open Go.RowKit Go.Proofs.YtbofhoonlmikcaaGreatDoor Go.Proofs.YtbofhoonlmikcaaGreatDoor.Sy

end Go.Proofs.YtbofhoonlmikcaaGreatDoor.Cu

end
section
namespace Go.Proofs.YtbofhoonlmikcaaGreatDoor.Cu
open Go.RowKit Go.Proofs.YtbofhoonlmikcaaGreatDoor Go.Proofs.YtbofhoonlmikcaaGreatDoor.Sy

theorem s_first : (signL 3 (List.replicate 32 (0 : UInt8))).getD 0 0 = UInt8.ofNat 233 := by
 rw [signL_3]
 decide +kernel
theorem s_last : (signL 3 (List.replicate 32 (0 : UInt8))).getD 63 0 = UInt8.ofNat 192 := by
 rw [signL_3]
 decide +kernel
theorem signL_length (sec : Nat) (m : List UInt8) : (signL sec m).length = 64 := by
 unfold signL
 split
 ·exact sigS_length _ _ _ _
 ·rfl
set_option maxHeartbeats 4000000 in
set_option maxRecDepth 100000 in
theorem alive6 (w : World) (ht : Sh.TabAt w 1) : Calls Tryz.prog 16 #[] w (Gets w (.bool true)) := by
 obtain ⟨S, hS⟩ : ∃ S, S = signL 3 (List.replicate 32 (0 : UInt8)) := ⟨_, rfl⟩
 obtain ⟨K, hK⟩ : ∃ K, K = evX (evP 3) := ⟨_, rfl⟩
 have hSl : S.length = 64 := by rw [hS]; exact signL_length _ _
 have hKl : K.length = 32 := by rw [hK]; exact evX_length _
 have h0 : S.getD 0 0 = UInt8.ofNat 233 := by rw [hS]; exact s_first
 have h63 : S.getD 63 0 = UInt8.ofNat 192 := by rw [hS]; exact s_last
 have hv : verB K (List.replicate 32 (0 : UInt8)) S = true := by rw [hS, hK]; exact verB_sig 3 _ signB_3
 have pub : (evP 3).isSome = true := by rw [evP_3]; rfl
 refine Sy.enter (args := []) Tryz.func16 rfl kL ?_
 refine sC ?_
 refine sP (.bool false) ?_
 refine sA ?_
 refine Sy.make kR 5 ((List.replicate 32 (0 : UInt8)).map bv).toArray (fun g => .slice (some ⟨g, 0, none⟩) 32 32) kF (fun g0 => ?_)
 refine sP (.slice (some ⟨g0, 0, none⟩) 32 32) ?_
 refine sA ?_
 refine sP (fv 3) <| sP (.slice (some ⟨g0, 0, none⟩) 32 32) <| sS (.tuple #[.agg (S.map bv).toArray, .bool true]) (qG 12 #[fv 3, .slice (some ⟨g0, 0, none⟩) 32 32] (fun w hw => by have q := Sign_any w 3 (by decide) (some ⟨g0, 0, none⟩) (List.replicate 32 (0 : UInt8)) 32 32 rfl (by decide) (by decide) (by decide) (Sh.Src.of_blk (hw.get (i := 0) rfl)) (ht.below hw.below ht.lt); rw [signB_3, ← hS] at q; exact q)) <| sP (.tuple #[.agg (S.map bv).toArray, .bool true]) <| sP (.agg (S.map bv).toArray) <| sP (.bool true) ?_
 refine sM 27 (Zl 64).toArray (fun g1 => ?_)
 refine sW 1 g1 27 (Zl 64).toArray (S.map bv).toArray (Writes.store 0 27 (S.map bv).toArray _ _ rfl kR kR (by rw [key_sz S hSl]; kernel_rfl) (by rw [key_sz S hSl]; exact Nat.le_of_ble_eq_true kR) (key_one _) (key_set _ _ (by rw [hSl]; kernel_rfl))) <| sP (.bool true) ?_
 refine sA ?_
 refine sP (fv 3) <| sS (.tuple #[.agg (K.map bv).toArray, .bool true]) (qF 14 #[fv 3] (fun w => by have q := public_any w 3 (by decide); rw [pub, ← hK] at q; exact q)) <| sP (.tuple #[.agg (K.map bv).toArray, .bool true]) <| sP (.agg (K.map bv).toArray) <| sP (.bool true) ?_
 refine sM 31 (Zl 32).toArray (fun g2 => ?_)
 refine sW 2 g2 31 (Zl 32).toArray (K.map bv).toArray (Writes.store 0 31 (K.map bv).toArray _ _ rfl kR kR (by rw [key_sz K hKl]; kernel_rfl) (by rw [key_sz K hKl]; exact Nat.le_of_ble_eq_true kR) (key_one _) (key_set _ _ (by rw [hKl]; kernel_rfl))) <| sP (.bool true) ?_
 refine sA ?_
 refine sP (.bool true) <| sP (.bool true) <| sP (.bool true) <| sP (.bool true) <| sP (.bool true) <| sP (.pointer (some ⟨g1, 0, none⟩)) <| sS (bv (S.getD 0 0)) (Quiet.cell 1 g1 0 27 5 (S.map bv).toArray _ _ rfl kR kR Tryz.underlying5 rfl _ (key_at S hSl 0 (by decide))) <| sS (.bool true) (Quiet.pure (fun w => (eql_u8 w _ _ _ _ (S.getD 0 0) 233 (by decide) rfl rfl rfl).trans (by rw [decide_eq_true h0]))) ?_
 refine sP (.bool true) <| sP (.bool true) <| sP (.pointer (some ⟨g1, 63, none⟩)) <| sS (bv (S.getD 63 0)) (Quiet.cell 1 g1 63 27 5 (S.map bv).toArray _ _ rfl kR kR Tryz.underlying5 rfl _ (key_at S hSl 63 (by decide))) <| sS (.bool true) (Quiet.pure (fun w => (eql_u8 w _ _ _ _ (S.getD 63 0) 192 (by decide) rfl rfl rfl).trans (by rw [decide_eq_true h63]))) <| sP (.bool true) <| sP (.bool true) <| sS (.agg (K.map bv).toArray) (Quiet.load 2 g2 0 32 31 31 (K.map bv).toArray _ _ rfl kR kR Tryz.underlying31 rfl kR _ (key_whole K hKl) (key_size K hKl)) ?_
 refine sP (.slice (some ⟨g0, 0, none⟩) 32 32) <| sS (.agg (S.map bv).toArray) (Quiet.load 1 g1 0 64 27 27 (S.map bv).toArray _ _ rfl kR kR Tryz.underlying27 rfl kR _ (key_whole S hSl) (key_size S hSl)) <| sS (.bool true) (qG 17 #[.agg (K.map bv).toArray, .slice (some ⟨g0, 0, none⟩) 32 32, .agg (S.map bv).toArray] (fun w hw => by have q := verify_any w K S hKl hSl (some ⟨g0, 0, none⟩) (List.replicate 32 (0 : UInt8)) 32 32 rfl (by decide) (by decide) (by decide) (Sh.Src.of_blk (hw.get (i := 0) rfl)) (ht.below hw.below ht.lt); rw [hv] at q; exact q)) <| sP (.bool true) <| sP (.bool true) ?_
 refine sG <| Sy.ret ?_
 exact rV (.bool true) rfl
end Go.Proofs.YtbofhoonlmikcaaGreatDoor.Cu

end
section
namespace Go.Proofs.YtbofhoonlmikcaaGreatDoor.Cu
open Go.RowKit Go.Proofs.YtbofhoonlmikcaaGreatDoor Go.Proofs.YtbofhoonlmikcaaGreatDoor.Sy

end Go.Proofs.YtbofhoonlmikcaaGreatDoor.Cu

end
section
namespace Go.Proofs.YtbofhoonlmikcaaGreatDoor.Cu
open Go.RowKit Go.Proofs.YtbofhoonlmikcaaGreatDoor Go.Proofs.YtbofhoonlmikcaaGreatDoor.Sy
set_option maxRecDepth 100000
set_option maxHeartbeats 4000000

theorem lP {n : Nat} (h : n < K4 := by first | assumption | exact small_lt (by assumption) | exact pX_lt _ | exact pY_lt _ | exact lt4 _ | exact Sc.mod_lt _ | decide +kernel) : n < K4 := h
theorem mulR_of {P R : Pt} {k a b : Nat} {i : Bool} (hk : k < K4) (ha : a < K4) (hb : b < K4) (h1 : dec a b i = P) (he : Ec.nm finv (k % Sc.pM) P = R) (w : World) : Calls Tryz.prog 42 #[fv k, pv a b i] w (Gets w (pv (pX R) (pY R) (pI R))) := by
 have h := mulRe_any w k a b i hk ha hb
 rw [h1, he, ptv_parts] at h
 exact h
end Go.Proofs.YtbofhoonlmikcaaGreatDoor.Cu

end
section
namespace Go.Proofs.YtbofhoonlmikcaaGreatDoor.Cu
open Go.RowKit Go.Proofs.YtbofhoonlmikcaaGreatDoor Go.Proofs.YtbofhoonlmikcaaGreatDoor.Sy

def refC (key m X Y : List UInt8) : Bool := liftB key && decide (valB X < pM) && (Sc.readS Y).2 && okR (Ec.add finv (Ec.nm finv ((Sc.readS Y).1 % Sc.pM) bP) (Ec.neg (Ec.nm finv (chalS X key m % Sc.pM) (liftP key)))) (valB X)
theorem refC_is (key m X Y : List UInt8) (hX : X.length = 32) (hY : Y.length = 32) : refC key m X Y = refB key m (X ++ Y) := by
 have e1 : ((X ++ Y).drop 0).take 32 = X := by rw [List.drop_zero, ← hX, List.take_left]
 have e2 : ((X ++ Y).drop 32).take 32 = Y := by rw [← hX, List.drop_left, hX, ← hY, List.take_length]
 unfold refC refB vrP
 rw [e1, e2]
theorem okR_raw {R : Pt} {x y : Nat} {i : Bool} (h : dec x y i = R) (hr : rightB x y i = true) (n : Nat) : okR R n = (!i && (decide (y % 18446744073709551616 % 2 = 0) && decide (x = n))) := by
 subst h
 cases i with
 | true =>
  rw [dec_inf]
  rfl
 | false =>
  have hr' := hr
  unfold rightB at hr
  rw [if_neg (by decide), Bool.and_eq_true, Bool.and_eq_true, decide_eq_true_eq, decide_eq_true_eq, decide_eq_true_eq] at hr
  have e : dec x y false = some (⟨x, hr.1.1⟩, ⟨y, hr.1.2⟩) := by
   unfold dec
   rw [dif_pos ⟨rfl, hr.1.1, hr.1.2, hr.2⟩]
  rw [e]
  show (decide (y % 2 = 0) && decide (x = n)) = _
  rw [show y % 18446744073709551616 % 2 = y % 2 by omega]
  rfl
theorem negR_of {P R : Pt} {a b : Nat} {i : Bool} (ha : a < K4) (hb : b < K4) (h1 : dec a b i = P) (he : Ec.neg P = R) (w : World) : Calls Tryz.prog 59 #[pv a b i] w (Gets w (pv (pX R) (pY R) (pI R))) := by
 have h := negRe_any w a b i ha hb
 rw [h1, he, ptv_parts] at h
 exact h
theorem add_raw {P Q R : Pt} {a b c d x y : Nat} {i j k : Bool} (ha : a < K4) (hb : b < K4) (hc : c < K4) (hd : d < K4) (h1 : dec a b i = P) (h2 : dec c d j = Q) (he : Ec.add finv P Q = R) (h3 : ptv R = pv x y k) (w : World) : Calls Tryz.prog 58 #[pv a b i, pv c d j] w (Gets w (pv x y k)) := by
 have h := addRe_any w a b i c d j ha hb hc hd
 rw [h1, h2, he, h3] at h
 exact h
theorem ok_own {w : World} {g : Nat} {t : TypeId} {l : List UInt8} {sp : List Value} {c : Nat} (hb : Blk w g t (l.map bv ++ sp).toArray) (hl : l.length = 32) (hc : 32 ≤ c ∧ c ≤ 9223372036854775807) : (Sh.Tx.mk (some ⟨g, 0, none⟩) l c).ok w := ⟨src_own hb, by show l.length ≤ c; omega, hc.2⟩
theorem val_own {g c : Nat} {l : List UInt8} (hl : l.length = 32) : (Sh.Tx.mk (some ⟨g, 0, none⟩) l c).val = .slice (some ⟨g, 0, none⟩) 32 c := by
 unfold Sh.Tx.val
 rw [hl]
theorem red3_c {w : World} {nm : ByteArray} (hnm : nm.size ≤ 1000000000) {g g1 g2 : Nat} {t t1 t2 : TypeId} {x y m : List UInt8} {A : Option Addr} {c cx cy n : Nat} {sx sy : List Value} (hx : x.length = 32) (hy : y.length = 32) (hn : m.length = n) (hm : n ≤ 999999900) (hc : n ≤ c) (hc2 : c ≤ 9223372036854775807)
  (h1 : Blk w g1 t1 (x.map bv ++ sx).toArray) (c1 : 32 ≤ cx ∧ cx ≤ 9223372036854775807) (h2 : Blk w g2 t2 (y.map bv ++ sy).toArray) (c2 : 32 ≤ cy ∧ cy ≤ 9223372036854775807) (hs : Sh.Src w A m) (hb : Blk w g t #[.slice (some ⟨g1, 0, none⟩) 32 cx, .slice (some ⟨g2, 0, none⟩) 32 cy, .slice A n c]) (ht : Sh.TabAt w 0) :
  Calls Tryz.prog 47 #[.string nm, .slice (some ⟨g, 0, none⟩) 3 3] w (Gets w (fv (valB (Sh.taggedS nm.data.toList (x ++ y ++ m)) % Sc.pM))) := by
 subst hn
 have e : Sh.cat [⟨some ⟨g1, 0, none⟩, x, cx⟩, ⟨some ⟨g2, 0, none⟩, y, cy⟩, ⟨A, m, c⟩] = x ++ y ++ m := by simp [Sh.cat]
 have q := red_any w nm hnm (some ⟨g, 0, none⟩) [⟨some ⟨g1, 0, none⟩, x, cx⟩, ⟨some ⟨g2, 0, none⟩, y, cy⟩, ⟨A, m, c⟩] 3 3 rfl (by decide) (texts_blk (by
  rw [List.map_cons, List.map_cons, List.map_cons, List.map_nil, val_own hx, val_own hy]
  exact hb) (ok3 (ok_own h1 hx c1) (ok_own h2 hy c2) ⟨hs, hc, hc2⟩)) ht (by rw [e, List.length_append, List.length_append, hx, hy]; omega)
 rw [e] at q
 exact q
set_option maxHeartbeats 4000000 in
set_option maxRecDepth 100000 in
theorem verR_any (w : World) (key X Y : List UInt8) (hkey : key.length = 32) (hX : X.length = 32) (hY : Y.length = 32) (A : Option Addr) (m : List UInt8) (n c : Nat) (hn : m.length = n) (hm : n ≤ 999999900) (hc : n ≤ c) (hc2 : c ≤ 9223372036854775807) (hs : Sh.Src w A m) (htr : Sh.TabAt w 0) : Calls Tryz.prog 18 #[.agg (key.map bv).toArray, .slice A n c, .agg ((X ++ Y).map bv).toArray] w (Gets w (.bool (refC key m X Y))) := by
 refine Sy.enter (args := [.agg (key.map bv).toArray, .slice A n c, .agg ((X ++ Y).map bv).toArray]) Tryz.func18 rfl kL ?_
 refine sC ?_
 refine sM 31 (key.map bv).toArray (fun g0 => ?_)
 refine sM 27 ((X ++ Y).map bv).toArray (fun g1 => ?_)
 refine sP (.bool false) ?_
 refine sA ?_
 refine sP (.slice none 0 0) ?_
 refine sA ?_
 refine sP (.slice none 0 0) ?_
 refine sA ?_
 refine sP (.slice none 0 0) ?_
 refine sG <| Sy.seq <| sC ?_
 refine sP (.int .i64 0) ?_
 refine sG <| Sy.block ?_
 refine Sy.loopN (31 + 1 + 1) ?_
 refine Sy.round <| Sy.seq <| sC ?_
 refine sP (.int .i64 0) <| sP (.bool true) ?_
 refine sG <| sT <| Sy.skip <| Sy.then_ <| Sy.seq <| Sy.block <| sC ?_
 refine sP (.slice none 0 0) <| sP (.int .i64 0) <| sP (.pointer (some ⟨g1, 0, none⟩)) <| sS (bv (X.getD 0 0)) (Quiet.cell 1 g1 0 27 5 ((X ++ Y).map bv).toArray _ _ rfl kR kR Tryz.underlying5 rfl _ ((key_at (X ++ Y) (cat_length hX hY) 0 (by decide)).trans (congrArg (fun z => some (bv z)) (cat_get1 hX (by decide))))) ?_
 refine Sy.make kR 5 #[bv (X.getD 0 0)] (fun g => .slice (some ⟨g, 0, none⟩) 1 1) kF (fun g2 => ?_)
 refine Sy.appendNil kR 25 5 _ _ Tryz.underlying25 info_u8 rfl rfl rfl rfl _ _ rfl kR 2 g2 0 1 1 5 #[bv (X.getD 0 0)] [bv (X.getD 0 0)] kR kR kR rfl (by decide) (by intro u hu; simp only [List.mem_cons, List.not_mem_nil, or_false] at hu; subst hu; rfl) (by decide) (fun q1 c1 s1 e1 m1 => ?_)
 refine sP (.slice (some ⟨q1, 0, none⟩) 1 c1) ?_
 refine sA ?_
 refine sP (.slice none 0 0) <| sP (.int .i64 0) <| sP (.int .i64 32) <| sP (.pointer (some ⟨g1, 32, none⟩)) <| sS (bv (Y.getD 0 0)) (Quiet.cell 1 g1 32 27 5 ((X ++ Y).map bv).toArray _ _ rfl kR kR Tryz.underlying5 rfl _ ((key_at (X ++ Y) (cat_length hX hY) 32 (by decide)).trans (congrArg (fun z => some (bv z)) (cat_get2 (k := 0) hX)))) ?_
 refine Sy.make kR 5 #[bv (Y.getD 0 0)] (fun g => .slice (some ⟨g, 0, none⟩) 1 1) kF (fun g3 => ?_)
 refine Sy.appendNil kR 25 5 _ _ Tryz.underlying25 info_u8 rfl rfl rfl rfl _ _ rfl kR 4 g3 0 1 1 5 #[bv (Y.getD 0 0)] [bv (Y.getD 0 0)] kR kR kR rfl (by decide) (by intro u hu; simp only [List.mem_cons, List.not_mem_nil, or_false] at hu; subst hu; rfl) (by decide) (fun q2 c2 s2 e2 m2 => ?_)
 refine sP (.slice (some ⟨q2, 0, none⟩) 1 c2) ?_
 refine sG <| Sy.region ?_
 refine sP (.slice none 0 0) <| sP (.int .i64 0) <| sP (.pointer (some ⟨g0, 0, none⟩)) <| sS (bv (key.getD 0 0)) (Quiet.cell 0 g0 0 31 5 (key.map bv).toArray _ _ rfl kR kR Tryz.underlying5 rfl _ (key_at key hkey 0 (by decide))) ?_
 refine Sy.make kR 5 #[bv (key.getD 0 0)] (fun g => .slice (some ⟨g, 0, none⟩) 1 1) kF (fun g4 => ?_)
 refine Sy.appendNil kR 25 5 _ _ Tryz.underlying25 info_u8 rfl rfl rfl rfl _ _ rfl kR 6 g4 0 1 1 5 #[bv (key.getD 0 0)] [bv (key.getD 0 0)] kR kR kR rfl (by decide) (by intro u hu; simp only [List.mem_cons, List.not_mem_nil, or_false] at hu; subst hu; rfl) (by decide) (fun q3 c3 s3 e3 m3 => ?_)
 refine sP (.slice (some ⟨q3, 0, none⟩) 1 c3) ?_
 refine Sy.nil <| Sy.in_ <| Sy.then_ <| Sy.region ?_
 refine sP (.int .i64 0) <| sP (.int .i64 1) <| sP (.int .i64 1) ?_
 refine Sy.nil <| Sy.again ?_
 refine Sy.loopXR (T := (Nat × Nat × List Value) × (Nat × Nat × List Value) × (Nat × Nat × List Value)) 31 (fun k1 y1 => [(1, .slice A n c), (3, .pointer (some ⟨g0, 0, none⟩)), (5, .pointer (some ⟨g1, 0, none⟩)), (7, .slice (some ⟨y1.1.1, 0, none⟩) (k1 + 1) y1.1.2.1), (8, .slice (some ⟨y1.2.1.1, 0, none⟩) (k1 + 1) y1.2.1.2.1), (9, .slice (some ⟨y1.2.2.1, 0, none⟩) (k1 + 1) y1.2.2.2.1), (10, .int .i64 ((k1 + 1 : Nat) : Int))]) (fun k1 y1 => [(g0, 31, (key.map bv).toArray), (g1, 27, ((X ++ Y).map bv).toArray), (y1.1.1, 5, ((X.take k1).map bv ++ ([bv (X.getD k1 0)] ++ y1.1.2.2)).toArray), (y1.2.1.1, 5, ((Y.take k1).map bv ++ ([bv (Y.getD k1 0)] ++ y1.2.1.2.2)).toArray), (y1.2.2.1, 5, ((key.take k1).map bv ++ ([bv (key.getD k1 0)] ++ y1.2.2.2.2)).toArray)]) (fun k1 y1 => (y1.1.2.2.length + (k1 + 1) = y1.1.2.1 ∧ y1.1.2.1 ≤ maxLen) ∧ (y1.2.1.2.2.length + (k1 + 1) = y1.2.1.2.1 ∧ y1.2.1.2.1 ≤ maxLen) ∧ (y1.2.2.2.2.length + (k1 + 1) = y1.2.2.2.1 ∧ y1.2.2.2.1 ≤ maxLen)) ((q1, c1, s1), (q2, c2, s2), (q3, c3, s3)) [true, true, false, true, false, true, false, true] ⟨⟨e1, m1⟩, ⟨e2, m2⟩, e3, m3⟩ (all_cons kR (all_cons kR (all_cons kR (all_cons kR (all_cons kR (all_cons kR (all_cons kR all_nil))))))) kR (fun k1 y1 hk1 hh1 => ?_)
 refine Sy.seq <| sC ?_
 refine sP (.int .i64 ((k1 + 1 : Nat) : Int)) ?_
 obtain ⟨b1, hb1⟩ : ∃ z : Bool, z = decide (k1 + 1 < 32) := ⟨_, rfl⟩
 refine sS (.bool b1) (Quiet.pure (exec_int .lss _ _ _ .i64 _ _ _ rfl rfl rfl (int_lss _ _ _ _ _ (by rw [hb1]; exact decide_eq_decide.2 (by omega))))) ?_
 refine sG ?_
 cases b1
 ·have lb1 : ¬ (k1 + 1 < 32) := of_decide_eq_false hb1.symm
  refine sU <| Sy.exit <| Sy.then_exit <| Sy.then_exit ?_
  obtain rfl : k1 = 31 := by omega
  have hc1 : 32 ≤ y1.1.2.1 ∧ y1.1.2.1 ≤ 9223372036854775807 := by
   have q := hh1.1
   simp only [maxLen] at q
   exact ⟨by omega, by omega⟩
  have hc2_ : 32 ≤ y1.2.1.2.1 ∧ y1.2.1.2.1 ≤ 9223372036854775807 := by
   have q := hh1.2.1
   simp only [maxLen] at q
   exact ⟨by omega, by omega⟩
  have hc3 : 32 ≤ y1.2.2.2.1 ∧ y1.2.2.2.1 ≤ 9223372036854775807 := by
   have q := hh1.2.2
   simp only [maxLen] at q
   exact ⟨by omega, by omega⟩
  have lvX : valB X < K4 := valB_lt32 X hX
  refine Sy.in_exit <| Sy.then_ ?_
  refine Sy.tidyC (G := [(1, .slice A n c), (3, .pointer (some ⟨g0, 0, none⟩)), (5, .pointer (some ⟨g1, 0, none⟩)), (7, .slice (some ⟨y1.1.1, 0, none⟩) 32 y1.1.2.1), (8, .slice (some ⟨y1.2.1.1, 0, none⟩) 32 y1.2.1.2.1), (9, .slice (some ⟨y1.2.2.1, 0, none⟩) 32 y1.2.2.2.1)]) (N := [(g0, 31, (key.map bv).toArray), (g1, 27, ((X ++ Y).map bv).toArray), (y1.1.1, 5, (X.map bv ++ y1.1.2.2).toArray), (y1.2.1.1, 5, (Y.map bv ++ y1.2.1.2.2).toArray), (y1.2.2.1, 5, (key.map bv ++ y1.2.2.2.2).toArray)]) [true, true, true, true, true] rfl (bcons rfl (bcons rfl (bcons (beq (congrArg List.toArray (apd_full X 31 hX))) (bcons (beq (congrArg List.toArray (apd_full Y 31 hY))) (bcons (beq (congrArg List.toArray (apd_full key 31 hkey))) rfl))))) (all_cons kR (all_cons kR (all_cons kR (all_cons kR (all_cons kR (all_cons kR all_nil)))))) ?_
  refine sC ?_
  refine sS (.agg (key.map bv).toArray) (Quiet.load 0 g0 0 32 31 31 (key.map bv).toArray _ _ rfl kR kR Tryz.underlying31 rfl kR _ (key_whole key hkey) (key_size key hkey)) ?_
  obtain ⟨b2, hb2⟩ : ∃ z : Bool, z = liftB key := ⟨_, rfl⟩
  obtain ⟨R1, hR1⟩ : ∃ P : Pt, P = liftP key := ⟨_, rfl⟩
  have oR1 : Ec.On R1 := by rw [hR1]; exact liftP_on _
  refine sS (.tuple #[pv (pX R1) (pY R1) (pI R1), .bool b2]) (qF 53 #[.agg (key.map bv).toArray] (fun w => by rw [← ptv_parts, hR1, hb2]; exact liftR_any w key hkey)) <| sP (.tuple #[pv (pX R1) (pY R1) (pI R1), .bool b2]) <| sP (pv (pX R1) (pY R1) (pI R1)) <| sP (.bool b2) ?_
  refine sM 52 (pcs 0 0 false) (fun g5 => ?_)
  refine sW 5 g5 52 (pcs 0 0 false) (pcs (pX R1) (pY R1) (pI R1)) (wS 0 52 (pcs (pX R1) (pY R1) (pI R1)) rfl) <| sP (.bool b2) ?_
  refine sA ?_
  refine sP (.slice (some ⟨y1.1.1, 0, none⟩) 32 y1.1.2.1) <| sS (fv (valB X)) (qG 54 #[.slice (some ⟨y1.1.1, 0, none⟩) 32 y1.1.2.1] (fun w hw => numberR_any w y1.1.1 y1.1.2.1 X hX (hw.get (i := 2) rfl).lt (own_cell (hw.get (i := 2) rfl)) hc1.1 hc1.2)) ?_
  refine sM 89 (fcs 0) (fun g6 => ?_)
  refine sW 6 g6 89 (fcs 0) (fcs (valB X)) (wS 0 89 (fcs (valB X)) rfl) ?_
  refine sH (fun j => false) ?_
  refine sD 0 rfl (.agg modcs) (qF 56 #[] (refP_any)) <| sD 1 rfl (fv (valB X)) (qL 6 g6 0 4 89 89 (fcs (valB X)) rfl Tryz.underlying89) ?_
  obtain ⟨b3, hb3⟩ : ∃ z : Bool, z = decide (valB X < pM) := ⟨_, rfl⟩
  refine sD 2 rfl (.bool b3) (qF 55 #[.agg modcs, fv (valB X)] (fun w => by rw [hb3]; exact rightR_any w (valB X) (valB_lt32 X hX))) <| sZ 3 rfl (.bool b3) ?_
  refine sE ?_
  refine sB ?_
  refine sP (.slice (some ⟨y1.2.1.1, 0, none⟩) 32 y1.2.1.2.1) ?_
  obtain ⟨b4, hb4⟩ : ∃ z : Bool, z = (Sc.readS Y).2 := ⟨_, rfl⟩
  have lrY : (Sc.readS Y).1 < K4 := readS_lt Y
  refine sS (.tuple #[fv ((Sc.readS Y).1), .bool b4]) (qG 57 #[.slice (some ⟨y1.2.1.1, 0, none⟩) 32 y1.2.1.2.1] (fun w hw => by rw [hb4]; exact rdR_any w y1.2.1.1 y1.2.1.2.1 Y hY (hw.get (i := 3) rfl).lt (own_cell (hw.get (i := 3) rfl)) hc2_.1 hc2_.2)) <| sP (.tuple #[fv ((Sc.readS Y).1), .bool b4]) <| sP (fv ((Sc.readS Y).1)) <| sP (.bool b4) ?_
  refine sM 24 (fcs 0) (fun g7 => ?_)
  refine sW 7 g7 24 (fcs 0) (fcs ((Sc.readS Y).1)) (wS 0 24 (fcs ((Sc.readS Y).1)) rfl) <| sP (.bool b4) ?_
  refine sG <| Sy.seq <| sC ?_
  refine sP (.bool b2) ?_
  cases b2
  ·refine sP (.bool true) <| sP (.bool true) ?_
   refine sN <| sN ?_
   refine sP (.bool true) <| sP (.bool true) ?_
   refine sN <| sN ?_
   refine sP (.bool true) ?_
   refine sG <| sT <| sC ?_
   refine sP (.bool false) ?_
   refine sG <| Sy.ret <| Sy.then_ret ?_
   rw [show (.bool (refC key m X Y) : Value) = .bool false from by unfold refC; rw [← hb2, ← hb3, ← hb4] <;> rfl]
   exact rV (.bool false) rfl
  ·refine sP (.bool false) <| sP (.bool false) <| sP (.bool b3) ?_
   cases b3
   ·refine sP (.bool true) <| sP (.bool true) <| sP (.bool true) ?_
    refine sN <| sN ?_
    refine sP (.bool true) ?_
    refine sG <| sT <| sC ?_
    refine sP (.bool false) ?_
    refine sG <| Sy.ret <| Sy.then_ret ?_
    rw [show (.bool (refC key m X Y) : Value) = .bool false from by unfold refC; rw [← hb2, ← hb3, ← hb4] <;> rfl]
    exact rV (.bool false) rfl
   ·refine sP (.bool false) <| sP (.bool false) <| sP (.bool false) <| sP (.bool b4) ?_
    cases b4
    ·refine sP (.bool true) <| sP (.bool true) ?_
     refine sG <| sT <| sC ?_
     refine sP (.bool false) ?_
     refine sG <| Sy.ret <| Sy.then_ret ?_
     rw [show (.bool (refC key m X Y) : Value) = .bool false from by unfold refC; rw [← hb2, ← hb3, ← hb4] <;> rfl]
     exact rV (.bool false) rfl
    ·refine sP (.bool false) <| sP (.bool false) ?_
     refine sG <| sU <| Sy.skip <| sB ?_
     refine sP (.slice (some ⟨y1.1.1, 0, none⟩) 32 y1.1.2.1) <| sP (.slice (some ⟨y1.2.2.1, 0, none⟩) 32 y1.2.2.2.1) <| sP (.slice A n c) ?_
     refine Sy.make kR 25 #[.slice (some ⟨y1.1.1, 0, none⟩) 32 y1.1.2.1, .slice (some ⟨y1.2.2.1, 0, none⟩) 32 y1.2.2.2.1, .slice A n c] (fun g => .slice (some ⟨g, 0, none⟩) 3 3) kF (fun g8 => ?_)
     obtain ⟨z1, hz1⟩ : ∃ z : Nat, z = chalS X key m := ⟨_, rfl⟩
     have lz1 : z1 < K4 := by rw [hz1]; exact Sc.mod_lt _
     refine sS (fv z1) (qG 47 #[.string challengeNm, .slice (some ⟨g8, 0, none⟩) 3 3] (fun w hw => by rw [hz1]; exact red3_c (by decide) hX hkey hn hm hc hc2 (hw.get (i := 2) rfl) hc1 (hw.get (i := 4) rfl) hc3 (hs.below hw.below) (hw.get (i := 8) rfl) (htr.below hw.below htr.lt))) ?_
     refine sM 24 (fcs 0) (fun g9 => ?_)
     refine sW 9 g9 24 (fcs 0) (fcs z1) (wS 0 24 (fcs z1) rfl) ?_
     refine sH (fun j => j == 9) ?_
     refine sD 0 rfl (fv ((Sc.readS Y).1)) (qL 7 g7 0 4 24 24 (fcs ((Sc.readS Y).1)) rfl Tryz.underlying24) <| sD 1 rfl (pv (pX bP) (pY bP) (pI bP)) (qF 43 #[] (fun w => by rw [← ptv_parts]; exact baseR_c w)) ?_
     obtain ⟨R2, hR2⟩ : ∃ P : Pt, P = Ec.nm finv ((Sc.readS Y).1 % Sc.pM) bP := ⟨_, rfl⟩
     have oR2 : Ec.On R2 := by rw [hR2]; exact bP_on.nm fld _
     refine sD 2 rfl (pv (pX R2) (pY R2) (pI R2)) (qF 42 #[fv ((Sc.readS Y).1), pv (pX bP) (pY bP) (pI bP)] (mulR_of lP lP lP (dec_parts bP_on) hR2.symm)) <| sD 3 rfl (fv z1) (qL 9 g9 0 4 24 24 (fcs z1) rfl Tryz.underlying24) <| sD 4 rfl (pv (pX R1) (pY R1) (pI R1)) (qL 5 g5 0 9 52 52 (pcs (pX R1) (pY R1) (pI R1)) rfl Tryz.underlying52) ?_
     obtain ⟨R3, hR3⟩ : ∃ P : Pt, P = Ec.nm finv (z1 % Sc.pM) R1 := ⟨_, rfl⟩
     have oR3 : Ec.On R3 := by rw [hR3]; exact oR1.nm fld _
     refine sD 5 rfl (pv (pX R3) (pY R3) (pI R3)) (qF 42 #[fv z1, pv (pX R1) (pY R1) (pI R1)] (mulR_of lP lP lP (dec_parts oR1) hR3.symm)) ?_
     obtain ⟨R4, hR4⟩ : ∃ P : Pt, P = Ec.neg R3 := ⟨_, rfl⟩
     have oR4 : Ec.On R4 := by rw [hR4]; exact oR3.neg
     refine sD 6 rfl (pv (pX R4) (pY R4) (pI R4)) (qF 59 #[pv (pX R3) (pY R3) (pI R3)] (negR_of lP lP (dec_parts oR3) hR4.symm)) ?_
     obtain ⟨R5, hR5⟩ : ∃ P : Pt, P = Ec.add finv R2 R4 := ⟨_, rfl⟩
     have oR5 : Ec.On R5 := by rw [hR5]; exact Ec.On.add fld oR2 oR4
     obtain ⟨ax, ay, ai, lax, lay, ea, da, ra⟩ := ptv_raw R5 oR5
     refine sD 7 rfl (pv ax ay ai) (qF 58 #[pv (pX R2) (pY R2) (pI R2), pv (pX R4) (pY R4) (pI R4)] (add_raw lP lP lP lP (dec_parts oR2) (dec_parts oR4) hR5.symm ea)) ?_
     refine sO 8 rfl 52 (pcs 0 0 false) (fun g10 => ?_)
     refine sX 9 rfl 10 g10 52 (pcs 0 0 false) (pcs ax ay ai) (wS 0 52 (pcs ax ay ai) rfl) ?_
     refine sE ?_
     refine sR (fun j => false) ?_
     refine sZ 0 rfl (.pointer (some ⟨g10, 8, none⟩)) <| sD 1 rfl (.bool ai) (qC 10 g10 8 52 4 (pcs ax ay ai) rfl Tryz.underlying4) ?_
     cases ai
     ·refine sZ 2 rfl (.bool true) <| sZ 3 rfl (.bool true) <| sZ 4 rfl (.pointer (some ⟨g10, 4, none⟩)) <| sZ 5 rfl (.pointer (some ⟨g10, 4, none⟩)) <| sD 6 rfl (qv (ay % 18446744073709551616)) (qC 10 g10 4 52 22 (pcs ax ay false) rfl Tryz.underlying22) <| sD 7 rfl (.int .u64 (((ay % 18446744073709551616) % 2 : Nat) : Int)) (Quiet.pure (fun w => rem2 w _ _ _ _ (ay % 18446744073709551616) rfl rfl rfl (Nat.mod_lt _ (by decide)))) ?_
      obtain ⟨b5, hb5⟩ : ∃ z : Bool, z = decide ((ay % 18446744073709551616) % 2 = 0) := ⟨_, rfl⟩
      refine sD 8 rfl (.bool b5) (Quiet.pure (exec_int .eql _ _ _ .u64 _ _ _ rfl rfl rfl (int_eql _ _ _ _ _ (by rw [hb5]; exact decide_eq_decide.2 (by omega))))) <| sZ 9 rfl (.bool b5) <| sZ 10 rfl (.bool b5) ?_
      cases b5
      ·have lb5 : ¬ ((ay % 18446744073709551616) % 2 = 0) := of_decide_eq_false hb5.symm
       refine sQ 11 rfl <| sQ 12 rfl <| sQ 13 rfl <| sQ 14 rfl <| sQ 15 rfl <| sZ 16 rfl (.bool false) <| sZ 17 rfl (.bool false) ?_
       refine sI ?_
       refine Sy.ret ?_
       rw [show (.bool (refC key m X Y) : Value) = .bool false from by unfold refC; rw [← hb2, ← hb3, ← hb4, ← hz1, ← hR1, ← hR2, ← hR3, ← hR4, ← hR5, okR_raw da ra]; rw [← hb5] <;> rfl]
       exact rV (.bool false) rfl
      ·have lb5 : (ay % 18446744073709551616) % 2 = 0 := of_decide_eq_true hb5.symm
       refine sZ 11 rfl (.pointer (some ⟨g10, 0, none⟩)) <| sD 12 rfl (fv ax) (qL 10 g10 0 4 52 50 (pcs ax ay false) rfl Tryz.underlying50) <| sD 13 rfl (fv (valB X)) (qL 6 g6 0 4 89 89 (fcs (valB X)) rfl Tryz.underlying89) <| sD 14 rfl (fv (valB X)) (qF 60 #[fv (valB X)] (fun w => refFe_any w (valB X) (by first | assumption | exact Sc.mod_lt _ | exact lt4 _ | exact valB_lt32 _ (by first | assumption | exact bytesS_length _) | decide +kernel))) ?_
       obtain ⟨b6, hb6⟩ : ∃ z : Bool, z = decide (ax = (valB X)) := ⟨_, rfl⟩
       refine sD 15 rfl (.bool b6) (Quiet.pure (fun w => by rw [hb6]; exact eql_fe w _ _ _ _ _ _ rfl rfl rfl lK lK)) <| sZ 16 rfl (.bool b6) <| sZ 17 rfl (.bool b6) ?_
       refine sI ?_
       refine Sy.ret ?_
       rw [show (.bool (refC key m X Y) : Value) = .bool b6 from by unfold refC; rw [← hb2, ← hb3, ← hb4, ← hz1, ← hR1, ← hR2, ← hR3, ← hR4, ← hR5, okR_raw da ra]; rw [← hb5, ← hb6] <;> rfl]
       exact rV (.bool b6) rfl
     ·refine sZ 2 rfl (.bool false) <| sZ 3 rfl (.bool false) <| sQ 4 rfl <| sQ 5 rfl <| sQ 6 rfl <| sQ 7 rfl <| sQ 8 rfl <| sZ 9 rfl (.bool false) ?_
      refine sZ 10 rfl (.bool false) <| sQ 11 rfl <| sQ 12 rfl <| sQ 13 rfl <| sQ 14 rfl <| sQ 15 rfl <| sZ 16 rfl (.bool false) <| sZ 17 rfl (.bool false) ?_
      refine sI ?_
      refine Sy.ret ?_
      rw [show (.bool (refC key m X Y) : Value) = .bool false from by unfold refC; rw [← hb2, ← hb3, ← hb4, ← hz1, ← hR1, ← hR2, ← hR3, ← hR4, ← hR5, okR_raw da ra]; rfl]
      exact rV (.bool false) rfl
 ·have lb1 : k1 + 1 < 32 := of_decide_eq_true hb1.symm
  refine sT <| Sy.skip <| Sy.then_ <| Sy.seq <| Sy.block <| sC ?_
  refine sP (.slice (some ⟨y1.1.1, 0, none⟩) (k1 + 1) y1.1.2.1) <| sP (.int .i64 ((k1 + 1 : Nat) : Int)) <| sS (.pointer (some ⟨g1, 0 + (k1 + 1) * 1, none⟩)) (Quiet.pure (exec_atA 27 _ _ _ g1 0 _ (k1 + 1) 1 .i64 rfl rfl rfl Tryz.underlying27 kF (by omega))) <| sS (bv (X.getD (k1 + 1) 0)) (Quiet.cell 1 g1 (0 + (k1 + 1) * 1) 27 5 ((X ++ Y).map bv).toArray _ _ rfl kR kR Tryz.underlying5 rfl _ ((key_sym (cat_length hX hY) (k := k1 + 1) (by omega) (by omega)).trans (congrArg (fun z => some (bv z)) (cat_get1 hX (by omega))))) ?_
  refine Sy.make kR 5 #[bv (X.getD (k1 + 1) 0)] (fun g => .slice (some ⟨g, 0, none⟩) 1 1) kF (fun g11 => ?_)
  refine Sy.append kR 25 5 _ _ Tryz.underlying25 info_u8 rfl rfl rfl rfl _ _ rfl 2 y1.1.1 (k1 + 1) y1.1.2.1 ((X.take k1).map bv ++ ([bv (X.getD k1 0)] ++ y1.1.2.2)).toArray ((X.take (k1 + 1)).map bv) kR kR (apd_take X k1 hX y1.1.2.2 (by omega)) (apd_len X k1 hX (by omega)) (apd_size X k1 hX y1.1.2.2 hh1.1.1 (by omega)) hh1.1.2 5 g11 0 1 1 5 #[bv (X.getD (k1 + 1) 0)] [bv (X.getD (k1 + 1) 0)] kR kR kR rfl (by intro u hu; simp only [List.mem_cons, List.not_mem_nil, or_false] at hu; subst hu; rfl) (by omega) (fun q4 c4 s4 e4 m4 => ?_)
  refine sP (.slice (some ⟨q4, 0, none⟩) (k1 + 1 + 1) c4) ?_
  refine sA ?_
  refine sP (.slice (some ⟨y1.2.1.1, 0, none⟩) (k1 + 1) y1.2.1.2.1) <| sP (.int .i64 ((k1 + 1 : Nat) : Int)) <| sS (.int .i64 ((32 + (k1 + 1) : Nat) : Int)) (Quiet.pure (exec_int .add _ _ _ .i64 _ _ _ rfl rfl rfl (int_add _ _ _ _ _ ((wrap_i64 (by omega) (by omega)).trans (by omega))))) <| sS (.pointer (some ⟨g1, 0 + (32 + (k1 + 1)) * 1, none⟩)) (Quiet.pure (exec_atA 27 _ _ _ g1 0 _ (32 + (k1 + 1)) 1 .i64 rfl rfl rfl Tryz.underlying27 kF (by omega))) <| sS (bv (Y.getD (k1 + 1) 0)) (Quiet.cell 1 g1 (0 + (32 + (k1 + 1)) * 1) 27 5 ((X ++ Y).map bv).toArray _ _ rfl kR kR Tryz.underlying5 rfl _ ((key_sym (cat_length hX hY) (k := 32 + (k1 + 1)) (by omega) (by omega)).trans (congrArg (fun z => some (bv z)) (cat_get2 hX)))) ?_
  refine Sy.make kR 5 #[bv (Y.getD (k1 + 1) 0)] (fun g => .slice (some ⟨g, 0, none⟩) 1 1) kF (fun g12 => ?_)
  refine Sy.append kR 25 5 _ _ Tryz.underlying25 info_u8 rfl rfl rfl rfl _ _ rfl 3 y1.2.1.1 (k1 + 1) y1.2.1.2.1 ((Y.take k1).map bv ++ ([bv (Y.getD k1 0)] ++ y1.2.1.2.2)).toArray ((Y.take (k1 + 1)).map bv) kR kR (apd_take Y k1 hY y1.2.1.2.2 (by omega)) (apd_len Y k1 hY (by omega)) (apd_size Y k1 hY y1.2.1.2.2 hh1.2.1.1 (by omega)) hh1.2.1.2 6 g12 0 1 1 5 #[bv (Y.getD (k1 + 1) 0)] [bv (Y.getD (k1 + 1) 0)] kR kR kR rfl (by intro u hu; simp only [List.mem_cons, List.not_mem_nil, or_false] at hu; subst hu; rfl) (by omega) (fun q5 c5 s5 e5 m5 => ?_)
  refine sP (.slice (some ⟨q5, 0, none⟩) (k1 + 1 + 1) c5) ?_
  refine sG <| Sy.region ?_
  refine sP (.slice (some ⟨y1.2.2.1, 0, none⟩) (k1 + 1) y1.2.2.2.1) <| sP (.int .i64 ((k1 + 1 : Nat) : Int)) <| sS (.pointer (some ⟨g0, 0 + (k1 + 1) * 1, none⟩)) (Quiet.pure (exec_atA 31 _ _ _ g0 0 _ (k1 + 1) 1 .i64 rfl rfl rfl Tryz.underlying31 kF (by omega))) <| sS (bv (key.getD (k1 + 1) 0)) (Quiet.cell 0 g0 (0 + (k1 + 1) * 1) 31 5 (key.map bv).toArray _ _ rfl kR kR Tryz.underlying5 rfl _ (key_sym hkey (k := k1 + 1) (by omega) (by omega))) ?_
  refine Sy.make kR 5 #[bv (key.getD (k1 + 1) 0)] (fun g => .slice (some ⟨g, 0, none⟩) 1 1) kF (fun g13 => ?_)
  refine Sy.append kR 25 5 _ _ Tryz.underlying25 info_u8 rfl rfl rfl rfl _ _ rfl 4 y1.2.2.1 (k1 + 1) y1.2.2.2.1 ((key.take k1).map bv ++ ([bv (key.getD k1 0)] ++ y1.2.2.2.2)).toArray ((key.take (k1 + 1)).map bv) kR kR (apd_take key k1 hkey y1.2.2.2.2 (by omega)) (apd_len key k1 hkey (by omega)) (apd_size key k1 hkey y1.2.2.2.2 hh1.2.2.1 (by omega)) hh1.2.2.2 7 g13 0 1 1 5 #[bv (key.getD (k1 + 1) 0)] [bv (key.getD (k1 + 1) 0)] kR kR kR rfl (by intro u hu; simp only [List.mem_cons, List.not_mem_nil, or_false] at hu; subst hu; rfl) (by omega) (fun q6 c6 s6 e6 m6 => ?_)
  refine sP (.slice (some ⟨q6, 0, none⟩) (k1 + 1 + 1) c6) ?_
  refine Sy.nil <| Sy.in_ <| Sy.then_ <| Sy.region ?_
  refine sP (.int .i64 ((k1 + 1 : Nat) : Int)) <| sS (.int .i64 (((k1 + 1) + 1 : Nat) : Int)) (Quiet.pure (exec_int .add _ _ _ .i64 _ _ _ rfl rfl rfl (int_add _ _ _ _ _ ((wrap_i64 (by omega) (by omega)).trans (by omega))))) <| sP (.int .i64 (((k1 + 1) + 1 : Nat) : Int)) ?_
  refine Sy.nil ?_
  exact Sy.againX (((q4, c4, s4), (q5, c5, s5), (q6, c6, s6))) [true, true, true, true, true, false, false, false] (by omega) (⟨⟨e4, m4⟩, ⟨e5, m5⟩, e6, m6⟩) (all_cons kR (all_cons kR (all_cons kR (all_cons kR (all_cons kR (all_cons kR (all_cons kR all_nil))))))) kR
end Go.Proofs.YtbofhoonlmikcaaGreatDoor.Cu

end
section
namespace Go.Proofs.YtbofhoonlmikcaaGreatDoor.Cu
open Go.RowKit Go.Proofs.YtbofhoonlmikcaaGreatDoor Go.Proofs.YtbofhoonlmikcaaGreatDoor.Sy

set_option maxHeartbeats 4000000 in
set_option maxRecDepth 100000 in
theorem law_sv0 (w : World) (key X Y : List UInt8) (hkey : key.length = 32) (hX : X.length = 32) (hY : Y.length = 32) (A : Option Addr) (m : List UInt8) (n c : Nat) (hn : m.length = n) (hm : n ≤ 999999900) (hc : n ≤ c) (hc2 : c ≤ 9223372036854775807) (hs : Sh.Src w A m) (ht : Sh.TabAt w 1) (htr : Sh.TabAt w 0) : Calls Tryz.prog 4 #[.agg (key.map bv).toArray, .slice A n c, .agg ((X ++ Y).map bv).toArray] w (Gets w (.bool true)) := by
 refine Sy.enter (args := [.agg (key.map bv).toArray, .slice A n c, .agg ((X ++ Y).map bv).toArray]) Tryz.func4 rfl kL ?_
 refine sC ?_
 refine sM 31 (key.map bv).toArray (fun g0 => ?_)
 refine sM 27 ((X ++ Y).map bv).toArray (fun g1 => ?_)
 refine sP (.bool false) ?_
 refine sH (fun j => false) ?_
 refine sD 0 rfl (.bool true) (qG 16 #[] (fun w hw => alive6 w (ht.below hw.below ht.lt))) <| sZ 1 rfl (.bool true) <| sD 2 rfl (.agg (key.map bv).toArray) (Quiet.load 0 g0 0 32 31 31 (key.map bv).toArray _ _ rfl kR kR Tryz.underlying31 rfl kR _ (key_whole key hkey) (key_size key hkey)) <| sZ 3 rfl (.slice A n c) <| sD 4 rfl (.agg ((X ++ Y).map bv).toArray) (Quiet.load 1 g1 0 64 27 27 ((X ++ Y).map bv).toArray _ _ rfl kR kR Tryz.underlying27 rfl kR _ (key_whole (X ++ Y) (cat_length hX hY)) (key_size (X ++ Y) (cat_length hX hY))) ?_
 obtain ⟨b1, hb1⟩ : ∃ z : Bool, z = verB key m (X ++ Y) := ⟨_, rfl⟩
 refine sD 5 rfl (.bool b1) (qG 17 #[.agg (key.map bv).toArray, .slice A n c, .agg ((X ++ Y).map bv).toArray] (fun w hw => by rw [hb1]; exact verify_any w key (X ++ Y) hkey (cat_length hX hY) A m n c hn hm hc hc2 (hs.below hw.below) (ht.below hw.below ht.lt))) <| sD 6 rfl (.agg (key.map bv).toArray) (Quiet.load 0 g0 0 32 31 31 (key.map bv).toArray _ _ rfl kR kR Tryz.underlying31 rfl kR _ (key_whole key hkey) (key_size key hkey)) <| sZ 7 rfl (.slice A n c) <| sD 8 rfl (.agg ((X ++ Y).map bv).toArray) (Quiet.load 1 g1 0 64 27 27 ((X ++ Y).map bv).toArray _ _ rfl kR kR Tryz.underlying27 rfl kR _ (key_whole (X ++ Y) (cat_length hX hY)) (key_size (X ++ Y) (cat_length hX hY))) <| sD 9 rfl (.bool b1) (qG 18 #[.agg (key.map bv).toArray, .slice A n c, .agg ((X ++ Y).map bv).toArray] (fun w hw => by rw [hb1, ← ref_ver key m (X ++ Y) (cat_length hX hY), ← refC_is key m X Y hX hY]; exact verR_any w key X Y hkey hX hY A m n c hn hm hc hc2 (hs.below hw.below) (htr.below hw.below htr.lt))) <| sD 10 rfl (.bool true) (Quiet.pure (fun w => eql_bool_same w _ _ _ _ b1 rfl rfl rfl)) <| sZ 11 rfl (.bool true) <| sZ 12 rfl (.bool true) ?_
 refine sI ?_
 refine Sy.ret ?_
 exact rV (.bool true) rfl
theorem law_sigverifies (w : World) (key s : List UInt8) (hkey : key.length = 32) (hs64 : s.length = 64) (A : Option Addr) (m : List UInt8) (n c : Nat) (hn : m.length = n) (hm : n ≤ 999999900) (hc : n ≤ c) (hc2 : c ≤ 9223372036854775807) (hs : Sh.Src w A m) (ht : Sh.TabAt w 1) (htr : Sh.TabAt w 0) : Calls Tryz.prog 4 #[.agg (key.map bv).toArray, .slice A n c, .agg (s.map bv).toArray] w (Gets w (.bool true)) := by
 have q := law_sv0 w key (s.take 32) (s.drop 32) hkey (by rw [List.length_take]; omega) (by rw [List.length_drop]; omega) A m n c hn hm hc hc2 hs ht htr
 rw [List.take_append_drop] at q
 exact q
end Go.Proofs.YtbofhoonlmikcaaGreatDoor.Cu

end
