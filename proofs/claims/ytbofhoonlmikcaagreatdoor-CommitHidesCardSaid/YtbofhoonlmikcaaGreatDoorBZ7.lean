/-
  Texts of ours, put together: ScRefs, ComA, FeLift, PLift, CrvW, CrvX, PLiftL, PLift3, CommitPointsL, ComB, CommitTagsL, ComC, CommitOpensL, CommitHidesL.
-/
import Derived.Test.YtbofhoonlmikcaaGreatDoorBZ6
set_option linter.unusedVariables false
set_option linter.unusedSimpArgs false
section
namespace Go.Proofs.YtbofhoonlmikcaaGreatDoor.Cu
open Go.RowKit Go.Proofs.YtbofhoonlmikcaaGreatDoor Go.Proofs.YtbofhoonlmikcaaGreatDoor.Sy
set_option maxRecDepth 100000
set_option maxHeartbeats 4000000

theorem nsc_any (w : World) (a : Nat) (ha : a < K4) : Calls Tryz.prog 73 #[fv a] w (Gets w (fv (a % Sc.pM))) := by
  refine Sy.enter (args := [fv a]) Tryz.func73 rfl kL ?_
  refine sC ?_
  refine sM 24 (fcs a) (fun g0 => ?_)
  refine sM 24 (fcs 0) (fun g1 => ?_)
  refine sH (fun j => j == 5) ?_
  refine sD 0 rfl (.agg modN) (qF 76 #[] (Sc.refN_any)) <| sD 1 rfl (fv a) (qL 0 g0 0 4 24 24 (fcs a) rfl Tryz.underlying24) <| sD 2 rfl (fv a) (qF 77 #[fv a] (fun w => Sc.refOf_any w a (by first | assumption | exact Sc.mod_lt _ | exact lt4 _ | exact valB_lt32 _ (by first | assumption | exact bytesS_length _) | decide +kernel))) <| sD 3 rfl (fv (a % Sc.pM)) (qF 89 #[.agg modN, fv a] (fun w => Sc.normR_any w a (by first | assumption | exact Sc.mod_lt _ | exact lt4 _ | exact valB_lt32 _ (by first | assumption | exact bytesS_length _) | decide +kernel))) <| sD 4 rfl (fv (a % Sc.pM)) (qF 74 #[fv (a % Sc.pM)] (fun w => Sc.refSc_any w (a % Sc.pM) (by first | assumption | exact Sc.mod_lt _ | exact lt4 _ | exact valB_lt32 _ (by first | assumption | exact bytesS_length _) | decide +kernel))) <| sX 5 rfl 1 g1 24 (fcs 0) (fcs (a % Sc.pM)) (wS 0 24 (fcs (a % Sc.pM)) rfl) ?_
  refine sI ?_
  refine Sy.ret ?_
  exact rC (v := fv (a % Sc.pM)) 24 g1 1 (fcs (a % Sc.pM)) rfl Tryz.underlying24
end Go.Proofs.YtbofhoonlmikcaaGreatDoor.Cu

end
section
namespace Go.Proofs.YtbofhoonlmikcaaGreatDoor.Cu
open Go.RowKit Go.Proofs.YtbofhoonlmikcaaGreatDoor Go.Proofs.YtbofhoonlmikcaaGreatDoor.Sy
set_option maxRecDepth 100000
set_option maxHeartbeats 4000000

def assP (id : List UInt8) (b : Nat) : Pt := valP 1 (genP id) b
theorem assP_on (id : List UInt8) (b : Nat) : Ec.On (assP id b) := valP_on (genP_on id) 1 b
theorem assP_zero (id : List UInt8) : assP id 0 = genP id := by
  unfold assP
  rw [valP_zero, one_pM, Ec.nm_one]
theorem ass_any (w : World) (id : List UInt8) (hid : id.length = 32) (k : Nat) (hk : k < K4) (ht : Sh.TabAt w 1) : Calls Tryz.prog 23 #[.agg (id.map bv).toArray, fv k] w (Gets w (ptv (assP id k))) := by
  refine Sy.enter (args := [.agg (id.map bv).toArray, fv k]) Tryz.func23 rfl kL ?_
  refine sC ?_
  refine sM 47 (id.map bv).toArray (fun g0 => ?_)
  refine sM 24 (fcs k) (fun g1 => ?_)
  refine sM 52 (pcs 0 0 false) (fun g2 => ?_)
  refine sH (fun j => j == 4) ?_
  refine sD 0 rfl (.agg (id.map bv).toArray) (Quiet.load 0 g0 0 32 47 47 (id.map bv).toArray _ _ rfl kR kR Tryz.underlying47 rfl kR _ (key_whole id hid) (key_size id hid)) ?_
  obtain ⟨R1, hR1⟩ : ∃ P : Pt, P = genP id := ⟨_, rfl⟩
  have oR1 : Ec.On R1 := by rw [hR1]; exact genP_on _
  refine sD 1 rfl (pv (pX R1) (pY R1) (pI R1)) (qG 63 #[.agg (id.map bv).toArray] (fun w hw => by rw [← ptv_parts, hR1]; exact gen_any w id hid (ht.below hw.below ht.lt))) <| sD 2 rfl (fv k) (qL 1 g1 0 4 24 24 (fcs k) rfl Tryz.underlying24) ?_
  obtain ⟨R2, hR2⟩ : ∃ P : Pt, P = valP 1 R1 k := ⟨_, rfl⟩
  have oR2 : Ec.On R2 := by rw [hR2]; exact valP_on oR1 _ _
  refine sD 3 rfl (pv (pX R2) (pY R2) (pI R2)) (qF 25 #[.int .u64 1, pv (pX R1) (pY R1) (pI R1), fv k] (val_of (by decide) lP lP lP (dec_parts oR1) hR2.symm)) <| sX 4 rfl 2 g2 52 (pcs 0 0 false) (pcs (pX R2) (pY R2) (pI R2)) (wS 0 52 (pcs (pX R2) (pY R2) (pI R2)) rfl) ?_
  refine sI ?_
  refine Sy.ret ?_
  rw [show (ptv (assP id k) : Value) = pv (pX R2) (pY R2) (pI R2) from by rw [← ptv_parts, hR2, hR1]; rfl]
  exact rC (v := pv (pX R2) (pY R2) (pI R2)) 52 g2 2 (pcs (pX R2) (pY R2) (pI R2)) rfl Tryz.underlying52
theorem assR_any (w : World) (id : List UInt8) (hid : id.length = 32) (k : Nat) (hk : k < K4) (htr : Sh.TabAt w 0) : Calls Tryz.prog 24 #[.agg (id.map bv).toArray, fv k] w (Gets w (ptv (assP id k))) := by
  refine Sy.enter (args := [.agg (id.map bv).toArray, fv k]) Tryz.func24 rfl kL ?_
  refine sC ?_
  refine sM 47 (id.map bv).toArray (fun g0 => ?_)
  refine sM 24 (fcs k) (fun g1 => ?_)
  refine sM 52 (pcs 0 0 false) (fun g2 => ?_)
  refine sH (fun j => j == 6) ?_
  refine sD 0 rfl (.agg (id.map bv).toArray) (Quiet.load 0 g0 0 32 47 47 (id.map bv).toArray _ _ rfl kR kR Tryz.underlying47 rfl kR _ (key_whole id hid) (key_size id hid)) ?_
  obtain ⟨R1, hR1⟩ : ∃ P : Pt, P = genP id := ⟨_, rfl⟩
  have oR1 : Ec.On R1 := by rw [hR1]; exact genP_on _
  refine sD 1 rfl (pv (pX R1) (pY R1) (pI R1)) (qG 64 #[.agg (id.map bv).toArray] (fun w hw => by rw [← ptv_parts, hR1]; exact genR_any w id hid (htr.below hw.below htr.lt))) <| sD 2 rfl (fv k) (qL 1 g1 0 4 24 24 (fcs k) rfl Tryz.underlying24) <| sD 3 rfl (pv (pX bP) (pY bP) (pI bP)) (qF 43 #[] (fun w => by rw [← ptv_parts]; exact baseR_c w)) ?_
  obtain ⟨R2, hR2⟩ : ∃ P : Pt, P = Ec.nm finv (k % Sc.pM) bP := ⟨_, rfl⟩
  have oR2 : Ec.On R2 := by rw [hR2]; exact bP_on.nm fld _
  refine sD 4 rfl (pv (pX R2) (pY R2) (pI R2)) (qF 42 #[fv k, pv (pX bP) (pY bP) (pI bP)] (mulR_of lP lP lP (dec_parts bP_on) hR2.symm)) ?_
  obtain ⟨R3, hR3⟩ : ∃ P : Pt, P = Ec.add finv R1 R2 := ⟨_, rfl⟩
  have oR3 : Ec.On R3 := by rw [hR3]; exact Ec.On.add fld oR1 oR2
  refine sD 5 rfl (pv (pX R3) (pY R3) (pI R3)) (qF 58 #[pv (pX R1) (pY R1) (pI R1), pv (pX R2) (pY R2) (pI R2)] (addR_of lP lP lP lP (dec_parts oR1) (dec_parts oR2)  hR3.symm)) <| sX 6 rfl 2 g2 52 (pcs 0 0 false) (pcs (pX R3) (pY R3) (pI R3)) (wS 0 52 (pcs (pX R3) (pY R3) (pI R3)) rfl) ?_
  refine sI ?_
  refine Sy.ret ?_
  rw [show (ptv (assP id k) : Value) = pv (pX R3) (pY R3) (pI R3) from by unfold assP; rw [valP_one, ← ptv_parts, hR3, hR2, hR1]]
  exact rC (v := pv (pX R3) (pY R3) (pI R3)) 52 g2 2 (pcs (pX R3) (pY R3) (pI R3)) rfl Tryz.underlying52
theorem ass_of {w : World} {R : Pt} {id : List UInt8} {k : Nat} (hid : id.length = 32) (hk : k < K4) (ht : Sh.TabAt w 1) (hR : assP id k = R) : Calls Tryz.prog 23 #[.agg (id.map bv).toArray, fv k] w (Gets w (pv (pX R) (pY R) (pI R))) := by
  have h := ass_any w id hid k hk ht
  rw [hR, ptv_parts] at h
  exact h
theorem assR_of {w : World} {R : Pt} {id : List UInt8} {k : Nat} (hid : id.length = 32) (hk : k < K4) (ht : Sh.TabAt w 0) (hR : assP id k = R) : Calls Tryz.prog 24 #[.agg (id.map bv).toArray, fv k] w (Gets w (pv (pX R) (pY R) (pI R))) := by
  have h := assR_any w id hid k hk ht
  rw [hR, ptv_parts] at h
  exact h
end Go.Proofs.YtbofhoonlmikcaaGreatDoor.Cu

end
section
namespace Go.Proofs.YtbofhoonlmikcaaGreatDoor
open Go.ChangeShapes Go.WideShapes Go.ChangeAt Go.RowKit

section
variable {H : Type} {enc : TypeId × Value → H} {P : Program}

theorem open_bytes {w : World} {base : Nat} {sp : Nat → Bool} {held : Bool} {fuel : Nat} {t e : TypeId} {n : Nat} {cs : List Value} {x : DataW H × List MemPlace}
    (ht : P.underlying t = some (.array n e)) (he : P.underlying e = some (.int .u8)) (hce : P.cellsOf e = 1) (hct : P.cellsOf t = n)
    (h : DataW.trod enc P w base sp held fuel t cs = some x) : ∃ l : List UInt8, l.length = n ∧ cs = l.map bv := by
  cases fuel with
  | zero => simp [DataW.trod] at h
  | succ fuel =>
    simp only [DataW.trod, ht, hce, hct, Nat.mul_one] at h
    split at h
    · rename_i hl
      obtain ⟨xs, hm, hx⟩ := Option.map_eq_some_iff.1 h
      have hone : ∀ i, i < n → ∃ u : UInt8, cs[i]? = some (bv u) := by
        intro i hi
        obtain ⟨b, hb, hf⟩ := Lib.mapM_at hm i i (by simp [hi])
        obtain ⟨z, hc, rfl, hw⟩ := DataW.trod_int he hf
        have h1 : cs[i]? = some (.int .u8 z) := by
          have := congrArg (·[0]?) hc
          simpa [List.getElem?_take, List.getElem?_drop] using this
        have hz : 0 ≤ z ∧ z < 256 := by
          simp [Lit.wf, IntKind.bits, IntKind.signed, IntKind.min, IntKind.max] at hw
          omega
        refine ⟨UInt8.ofNat z.toNat, ?_⟩
        rw [h1]
        unfold bv
        congr 2
        rw [UInt8.toNat_ofNat']
        omega
      refine ⟨cs.map (fun v => match v with | .int _ z => UInt8.ofNat z.toNat | _ => 0), by simpa using hl, ?_⟩
      apply List.ext_getElem?
      intro i
      by_cases hi : i < n
      · obtain ⟨u, hu⟩ := hone i hi
        simp [hu, bv]
      · have : cs.length ≤ i := by omega
        simp [List.getElem?_eq_none this]
    · cases h
end

theorem u64_wf {n : Int} (h : (Lit.int .u64 n).wf = true) : ∃ m : Nat, n = (m : Int) ∧ m < 18446744073709551616 := by
  have hz : 0 ≤ n ∧ n < 18446744073709551616 := by
    simp [Lit.wf, IntKind.bits, IntKind.signed, IntKind.min, IntKind.max] at h
    omega
  exact ⟨n.toNat, by omega, by omega⟩
end Go.Proofs.YtbofhoonlmikcaaGreatDoor

end
section
namespace Go.Proofs.YtbofhoonlmikcaaGreatDoor.Cu
open Go.ChangeShapes Go.WideShapes Go.ChangeAt Go.RowKit Go.Proofs.YtbofhoonlmikcaaGreatDoor Go.Deep

theorem words_trod {H : Type} {enc : TypeId × Value → H} {P : Program} {W : World} {b : Nat} {sp : Nat → Bool} {held : Bool} {fuel : Nat} {t q : TypeId} {c0 c1 c2 c3 : Value} {x : DataW H × List MemPlace} (ht : P.underlying t = some (.array 4 q)) (hq : P.underlying q = some (.int .u64)) (hcq : P.cellsOf q = 1)
    (hf : DataW.trod enc P W b sp held fuel t [c0, c1, c2, c3] = some x) : ∃ n : Nat, n < K4 ∧ [c0, c1, c2, c3] = fws n := by
  obtain ⟨y0, y1, y2, y3, m, _, g0, g1, g2, g3⟩ := trod_array4 ht hcq hf
  obtain ⟨z0, e0, _, w0⟩ := DataW.trod_int hq g0
  obtain ⟨z1, e1, _, w1⟩ := DataW.trod_int hq g1
  obtain ⟨z2, e2, _, w2⟩ := DataW.trod_int hq g2
  obtain ⟨z3, e3, _, w3⟩ := DataW.trod_int hq g3
  obtain ⟨a, rfl, ha⟩ := u64_wf w0
  obtain ⟨b, rfl, hb⟩ := u64_wf w1
  obtain ⟨c, rfl, hc⟩ := u64_wf w2
  obtain ⟨e, rfl, he⟩ := u64_wf w3
  simp only [List.cons.injEq, and_true] at e0 e1 e2 e3
  subst e0 e1 e2 e3
  refine ⟨_, fv_lt a b c e ha hb hc he, ?_⟩
  have h := fv_mk a b c e ha hb hc he
  rw [fv_fws] at h
  injection h with h
  exact congrArg Array.toList h
theorem open_pt {H : Type} {enc : TypeId × Value → H} {P : Program} {W : World} {r : Reach} {b0 : Nat} {t q : TypeId} {f0 f1 f2 : Field} {v : Value} {d : DataW H} {ps : List MemPlace} (ht : P.underlying t = some (.struct #[f0, f1, f2]))
    (h0 : P.underlying f0.type = some (.array 4 q)) (h1 : P.underlying f1.type = some (.array 4 q)) (h2 : P.underlying f2.type = some .bool) (hq : P.underlying q = some (.int .u64))
    (hcq : P.cellsOf q = 1) (hct : P.cellsOf t = 9) (c0 : P.cellsOf f0.type = 4) (c1 : P.cellsOf f1.type = 4) (c2 : P.cellsOf f2.type = 1) (o0 : f0.offset = 0) (o1 : f1.offset = 4) (o2 : f2.offset = 8)
    (hval : Value.okWide P W r b0 t v) (h : DataW.Trod enc P W 0 (fun _ => true) true t v d ps) : ∃ (x y : Nat) (i : Bool), x < K4 ∧ y < K4 ∧ v = pv x y i := by
  obtain ⟨cs, rfl, hsz⟩ := okWide_struct ht hval
  obtain ⟨fuel, hf⟩ := h
  obtain ⟨y0, y1, y2, m, hx, hl, g0, g1, g2⟩ := trod_struct3 ht hf
  obtain ⟨l⟩ := cs
  rw [hct] at hsz
  obtain ⟨a0, a1, a2, a3, b0', b1, b2, b3, z, rfl⟩ : ∃ a0 a1 a2 a3 b0 b1 b2 b3 z, l = [a0, a1, a2, a3, b0, b1, b2, b3, z] := by
    match l, hsz with
    | [a0, a1, a2, a3, b0, b1, b2, b3, z], _ => exact ⟨a0, a1, a2, a3, b0, b1, b2, b3, z, rfl⟩
  rw [c0, o0] at g0
  rw [c1, o1] at g1
  rw [c2, o2] at g2
  obtain ⟨x, hx4, ex⟩ := words_trod h0 hq hcq (c0 := a0) (c1 := a1) (c2 := a2) (c3 := a3) (by simpa [Value.cells] using g0)
  obtain ⟨y, hy4, ey⟩ := words_trod h1 hq hcq (c0 := b0') (c1 := b1) (c2 := b2) (c3 := b3) (by simpa [Value.cells] using g1)
  obtain ⟨i, ei⟩ : ∃ i, z = .bool i := by
    have g2' : DataW.trod enc P W 0 (fun _ => true) true m f2.type [z] = some y2 := by simpa [Value.cells] using g2
    obtain ⟨b, e, _⟩ := DataW.trod_bool h2 g2'
    simp only [List.cons.injEq, and_true] at e
    exact ⟨b, e⟩
  refine ⟨x, y, i, hx4, hy4, ?_⟩
  subst ei
  unfold pv pcs
  rw [← ex, ← ey]
  rfl
set_option maxRecDepth 100000 in
theorem open_point {H : Type} {enc : TypeId × Value → H} {W : World} {r : Reach} {b0 : Nat} {v : Value} {d : DataW H} {ps : List MemPlace}
    (hval : Value.okWide Tryz.prog W r b0 52 v) (h : DataW.Trod enc Tryz.prog W 0 (fun _ => true) true 52 v d ps) : ∃ (x y : Nat) (i : Bool), x < K4 ∧ y < K4 ∧ v = pv x y i :=
  open_pt Tryz.underlying52 Tryz.underlying50 Tryz.underlying50 Tryz.underlying4 Tryz.underlying22 (by kernel_rfl) (by kernel_rfl) (by kernel_rfl) (by kernel_rfl) (by kernel_rfl) rfl rfl rfl hval h
end Go.Proofs.YtbofhoonlmikcaaGreatDoor.Cu

end
section
namespace Go.Proofs.YtbofhoonlmikcaaGreatDoor.Cu
open Go.RowKit Go.Proofs.YtbofhoonlmikcaaGreatDoor Go.Proofs.YtbofhoonlmikcaaGreatDoor.Sy
set_option maxRecDepth 100000

structure Pr where
  x : Nat
  y : Nat
  i : Bool
def Pr.cells (t : Pr) : List Value := fws t.x ++ (fws t.y ++ [Value.bool t.i])
def Pr.ok (t : Pr) : Prop := t.x < K4 ∧ t.y < K4
end Go.Proofs.YtbofhoonlmikcaaGreatDoor.Cu

end
section
namespace Go.Proofs.YtbofhoonlmikcaaGreatDoor.Cu
open Go.RowKit Go.Proofs.YtbofhoonlmikcaaGreatDoor Go.Proofs.YtbofhoonlmikcaaGreatDoor.Sy
set_option maxRecDepth 100000

end Go.Proofs.YtbofhoonlmikcaaGreatDoor.Cu

end
section
namespace Go.Proofs.YtbofhoonlmikcaaGreatDoor.Cu
open Go.ChangeShapes Go.WideShapes Go.ChangeAt Go.RowKit Go.Proofs.YtbofhoonlmikcaaGreatDoor Go.Deep

theorem pt_trod {H : Type} {enc : TypeId × Value → H} {P : Program} {W : World} {t q : TypeId} {f0 f1 f2 : Field} (ht : P.underlying t = some (.struct #[f0, f1, f2]))
    (h0 : P.underlying f0.type = some (.array 4 q)) (h1 : P.underlying f1.type = some (.array 4 q)) (h2 : P.underlying f2.type = some .bool) (hq : P.underlying q = some (.int .u64))
    (hcq : P.cellsOf q = 1) (c0 : P.cellsOf f0.type = 4) (c1 : P.cellsOf f1.type = 4) (c2 : P.cellsOf f2.type = 1) (o0 : f0.offset = 0) (o1 : f1.offset = 4) (o2 : f2.offset = 8)
    (fuel : Nat) (cs : List Value) (x : DataW H × List MemPlace) (hl : cs.length = 9) (hf : DataW.trod enc P W 0 (fun _ => true) true fuel t cs = some x) : ∃ y : Pr, y.ok ∧ cs = y.cells := by
  obtain ⟨y0, y1, y2, m, hx, _, g0, g1, g2⟩ := trod_struct3 ht hf
  obtain ⟨a0, a1, a2, a3, b0', b1, b2, b3, z, rfl⟩ : ∃ a0 a1 a2 a3 b0 b1 b2 b3 z, cs = [a0, a1, a2, a3, b0, b1, b2, b3, z] := by
    match cs, hl with
    | [a0, a1, a2, a3, b0, b1, b2, b3, z], _ => exact ⟨a0, a1, a2, a3, b0, b1, b2, b3, z, rfl⟩
  rw [c0, o0] at g0
  rw [c1, o1] at g1
  rw [c2, o2] at g2
  obtain ⟨x, hx4, ex⟩ := words_trod h0 hq hcq (c0 := a0) (c1 := a1) (c2 := a2) (c3 := a3) (by simpa using g0)
  obtain ⟨y, hy4, ey⟩ := words_trod h1 hq hcq (c0 := b0') (c1 := b1) (c2 := b2) (c3 := b3) (by simpa using g1)
  obtain ⟨i, ei⟩ : ∃ i, z = .bool i := by
    have g2' : DataW.trod enc P W 0 (fun _ => true) true m f2.type [z] = some y2 := by simpa using g2
    obtain ⟨b, e, _⟩ := DataW.trod_bool h2 g2'
    simp only [List.cons.injEq, and_true] at e
    exact ⟨b, e⟩
  subst ei
  refine ⟨⟨x, y, i⟩, ⟨hx4, hy4⟩, ?_⟩
  unfold Pr.cells
  rw [← ex, ← ey]
  rfl
instance : Inhabited Pr := ⟨⟨0, 0, false⟩⟩
instance : Inhabited Trm := ⟨⟨0, 0, 0, false⟩⟩
set_option maxRecDepth 100000 in
theorem pt_trod' {H : Type} {enc : TypeId × Value → H} {W : World} (fuel : Nat) (cs : List Value) (x : DataW H × List MemPlace) (hl : cs.length = 9) (hf : DataW.trod enc Tryz.prog W 0 (fun _ => true) true fuel 52 cs = some x) : ∃ y : Pr, y.ok ∧ cs = y.cells :=
  pt_trod Tryz.underlying52 Tryz.underlying50 Tryz.underlying50 Tryz.underlying4 Tryz.underlying22 (by kernel_rfl) (by kernel_rfl) (by kernel_rfl) (by kernel_rfl) rfl rfl rfl fuel cs x hl hf
end Go.Proofs.YtbofhoonlmikcaaGreatDoor.Cu

end
section
namespace Go.Proofs.YtbofhoonlmikcaaGreatDoor.Cu
open Go.ChangeShapes Go.WideShapes Go.ChangeAt Go.RowKit Go.Proofs.YtbofhoonlmikcaaGreatDoor Go.Deep

theorem split2 {α : Type} {cs : List α} {a b : Nat} (h : cs.length = a + b) : cs = (cs.drop 0).take a ++ (cs.drop a).take b := by
  rw [List.drop_zero, List.take_of_length_le (l := cs.drop a) (by rw [List.length_drop]; omega), List.take_append_drop]
theorem split3 {α : Type} {cs : List α} {a b c : Nat} (h : cs.length = a + (b + c)) : cs = (cs.drop 0).take a ++ ((cs.drop a).take b ++ (cs.drop (a + b)).take c) := by
  have h2 := split2 (cs := cs.drop a) (a := b) (b := c) (by rw [List.length_drop]; omega)
  rw [List.drop_zero, List.drop_drop] at h2
  rw [← h2, List.drop_zero, List.take_append_drop]
theorem split4 {α : Type} {cs : List α} {a b c d : Nat} (h : cs.length = a + (b + (c + d))) : cs = (cs.drop 0).take a ++ ((cs.drop a).take b ++ ((cs.drop (a + b)).take c ++ (cs.drop (a + b + c)).take d)) := by
  have h2 := split3 (cs := cs.drop a) (a := b) (b := c) (c := d) (by rw [List.length_drop]; omega)
  rw [List.drop_zero, List.drop_drop, List.drop_drop, ← Nat.add_assoc] at h2
  rw [← h2, List.drop_zero, List.take_append_drop]
def tgl (b : Bool) (id : List UInt8) (x y : Nat) (i : Bool) : List Value := .bool b :: (id.map bv ++ (fws x ++ (fws y ++ [.bool i])))
def aml (b : Bool) (v : Nat) (x y : Nat) (i : Bool) : List Value := .bool b :: .int .u64 v :: (fws x ++ (fws y ++ [.bool i]))
def opl (id : List UInt8) (v k l : Nat) : List Value := id.map bv ++ (.int .u64 v :: (fws k ++ fws l))
def tgv (b : Bool) (id : List UInt8) (x y : Nat) (i : Bool) : Value := .agg (tgl b id x y i).toArray
def amv (b : Bool) (v : Nat) (x y : Nat) (i : Bool) : Value := .agg (aml b v x y i).toArray
def opv (id : List UInt8) (v k l : Nat) : Value := .agg (opl id v k l).toArray
def tgcs (b : Bool) (id : List UInt8) (x y : Nat) (i : Bool) : Array Value := (tgl b id x y i).toArray
def amcs (b : Bool) (v : Nat) (x y : Nat) (i : Bool) : Array Value := (aml b v x y i).toArray
def opcs (id : List UInt8) (v k l : Nat) : Array Value := (opl id v k l).toArray

theorem one_bool {H : Type} {enc : TypeId × Value → H} {P : Program} {W : World} {fuel : Nat} {t : TypeId} {cs : List Value} {x : DataW H × List MemPlace} (ht : P.underlying t = some .bool) (hf : DataW.trod enc P W 0 (fun _ => true) true fuel t cs = some x) : ∃ b, cs = [.bool b] := by
  obtain ⟨b, e, _⟩ := DataW.trod_bool ht hf
  exact ⟨b, e⟩
theorem one_u64 {H : Type} {enc : TypeId × Value → H} {P : Program} {W : World} {fuel : Nat} {t : TypeId} {cs : List Value} {x : DataW H × List MemPlace} (ht : P.underlying t = some (.int .u64)) (hf : DataW.trod enc P W 0 (fun _ => true) true fuel t cs = some x) : ∃ v : Nat, v < 18446744073709551616 ∧ cs = [.int .u64 v] := by
  obtain ⟨z, e, _, w⟩ := DataW.trod_int ht hf
  obtain ⟨m, rfl, hm⟩ := u64_wf w
  exact ⟨m, hm, e⟩
theorem four_words {H : Type} {enc : TypeId × Value → H} {P : Program} {W : World} {fuel : Nat} {t q : TypeId} {cs : List Value} {x : DataW H × List MemPlace} (hl : cs.length = 4) (ht : P.underlying t = some (.array 4 q)) (hq : P.underlying q = some (.int .u64)) (hcq : P.cellsOf q = 1) (hf : DataW.trod enc P W 0 (fun _ => true) true fuel t cs = some x) : ∃ n : Nat, n < K4 ∧ cs = fws n := by
  match cs, hl with
  | [a, b, c, d], _ => exact words_trod ht hq hcq hf
set_option maxRecDepth 100000 in
theorem open_tag {H : Type} {enc : TypeId × Value → H} {W : World} {r : Reach} {b0 : Nat} {v : Value} {d : DataW H} {ps : List MemPlace}
    (hval : Value.okWide Tryz.prog W r b0 57 v) (h : DataW.Trod enc Tryz.prog W 0 (fun _ => true) true 57 v d ps) : ∃ (b : Bool) (id : List UInt8) (x y : Nat) (i : Bool), id.length = 32 ∧ x < K4 ∧ y < K4 ∧ v = tgv b id x y i := by
  have ht := Tryz.underlying57
  obtain ⟨⟨cs⟩, rfl, hsz⟩ := okWide_struct ht hval
  rw [show Tryz.prog.cellsOf 57 = 42 by kernel_rfl] at hsz
  have hl : cs.length = 1 + (32 + 9) := by simpa using hsz
  obtain ⟨fuel, hf⟩ := h
  obtain ⟨y0, y1, y2, n, _, _, g0, g1, g2⟩ := trod_struct3 ht (by simpa [Value.cells] using hf)
  have s := split3 hl
  have l2 : ((cs.drop (1 + 32)).take 9).length = 9 := by rw [List.length_take, List.length_drop]; omega
  obtain ⟨b, e0⟩ := one_bool (P := Tryz.prog) Tryz.underlying4 g0
  obtain ⟨id, hid, e1⟩ := open_bytes (P := Tryz.prog) Tryz.underlying47 Tryz.underlying5 (by kernel_rfl) (by kernel_rfl) g1
  obtain ⟨⟨x, y, i⟩, ⟨hx, hy⟩, e2⟩ := pt_trod' n _ _ l2 g2
  refine ⟨b, id, x, y, i, hid, hx, hy, ?_⟩
  rw [s]
  unfold tgv tgl
  have q0 : (cs.drop 0).take 1 = [.bool b] := e0
  have q1 : (cs.drop 1).take 32 = id.map bv := e1
  have q2 : (cs.drop (1 + 32)).take 9 = fws x ++ (fws y ++ [.bool i]) := e2
  rw [q0, q1, q2]
  rfl
set_option maxRecDepth 100000 in
theorem open_amount {H : Type} {enc : TypeId × Value → H} {W : World} {r : Reach} {b0 : Nat} {v : Value} {d : DataW H} {ps : List MemPlace}
    (hval : Value.okWide Tryz.prog W r b0 59 v) (h : DataW.Trod enc Tryz.prog W 0 (fun _ => true) true 59 v d ps) : ∃ (b : Bool) (u : Nat) (x y : Nat) (i : Bool), u < 18446744073709551616 ∧ x < K4 ∧ y < K4 ∧ v = amv b u x y i := by
  have ht := Tryz.underlying59
  obtain ⟨⟨cs⟩, rfl, hsz⟩ := okWide_struct ht hval
  rw [show Tryz.prog.cellsOf 59 = 11 by kernel_rfl] at hsz
  have hl : cs.length = 1 + (1 + 9) := by simpa using hsz
  obtain ⟨fuel, hf⟩ := h
  obtain ⟨y0, y1, y2, n, _, _, g0, g1, g2⟩ := trod_struct3 ht (by simpa [Value.cells] using hf)
  have s := split3 hl
  have l2 : ((cs.drop (1 + 1)).take 9).length = 9 := by rw [List.length_take, List.length_drop]; omega
  obtain ⟨b, e0⟩ := one_bool (P := Tryz.prog) Tryz.underlying4 g0
  obtain ⟨u, hu, e1⟩ := one_u64 (P := Tryz.prog) Tryz.underlying22 g1
  obtain ⟨⟨x, y, i⟩, ⟨hx, hy⟩, e2⟩ := pt_trod' n _ _ l2 g2
  refine ⟨b, u, x, y, i, hu, hx, hy, ?_⟩
  rw [s]
  unfold amv aml
  have q0 : (cs.drop 0).take 1 = [.bool b] := e0
  have q1 : (cs.drop 1).take 1 = [.int .u64 u] := e1
  have q2 : (cs.drop (1 + 1)).take 9 = fws x ++ (fws y ++ [.bool i]) := e2
  rw [q0, q1, q2]
  rfl
set_option maxRecDepth 100000 in
theorem open_opening {H : Type} {enc : TypeId × Value → H} {W : World} {r : Reach} {b0 : Nat} {v : Value} {d : DataW H} {ps : List MemPlace}
    (hval : Value.okWide Tryz.prog W r b0 49 v) (h : DataW.Trod enc Tryz.prog W 0 (fun _ => true) true 49 v d ps) : ∃ (id : List UInt8) (u k l : Nat), id.length = 32 ∧ u < 18446744073709551616 ∧ k < K4 ∧ l < K4 ∧ v = opv id u k l := by
  have ht := Tryz.underlying49
  obtain ⟨⟨cs⟩, rfl, hsz⟩ := okWide_struct ht hval
  rw [show Tryz.prog.cellsOf 49 = 41 by kernel_rfl] at hsz
  have hl : cs.length = 32 + (1 + (4 + 4)) := by simpa using hsz
  obtain ⟨fuel, hf⟩ := h
  obtain ⟨y0, y1, y2, y3, n, _, _, g0, g1, g2, g3⟩ := Joins.trod_struct4 ht (by simpa [Value.cells] using hf)
  have s := split4 hl
  have l2 : ((cs.drop (32 + 1)).take 4).length = 4 := by rw [List.length_take, List.length_drop]; omega
  have l3 : ((cs.drop (32 + 1 + 4)).take 4).length = 4 := by rw [List.length_take, List.length_drop]; omega
  obtain ⟨id, hid, e0⟩ := open_bytes (P := Tryz.prog) Tryz.underlying47 Tryz.underlying5 (by kernel_rfl) (by kernel_rfl) g0
  obtain ⟨u, hu, e1⟩ := one_u64 (P := Tryz.prog) Tryz.underlying22 g1
  obtain ⟨k, hk, e2⟩ := four_words l2 (P := Tryz.prog) Tryz.underlying24 Tryz.underlying22 (by kernel_rfl) g2
  obtain ⟨l, hl', e3⟩ := four_words l3 (P := Tryz.prog) Tryz.underlying24 Tryz.underlying22 (by kernel_rfl) g3
  refine ⟨id, u, k, l, hid, hu, hk, hl', ?_⟩
  rw [s]
  unfold opv opl
  have q0 : (cs.drop 0).take 32 = id.map bv := e0
  have q1 : (cs.drop 32).take 1 = [.int .u64 u] := e1
  have q2 : (cs.drop (32 + 1)).take 4 = fws k := e2
  have q3 : (cs.drop (32 + 1 + 4)).take 4 = fws l := e3
  rw [q0, q1, q2, q3]
  rfl
end Go.Proofs.YtbofhoonlmikcaaGreatDoor.Cu

end
section
namespace Go.Proofs.YtbofhoonlmikcaaGreatDoor.Cu
open Go.RowKit Go.Proofs.YtbofhoonlmikcaaGreatDoor Go.Proofs.YtbofhoonlmikcaaGreatDoor.Sy

set_option maxHeartbeats 4000000 in
set_option maxRecDepth 100000 in
theorem law_cpoints (w : World) (g : Nat → UInt8) (u k l : Nat) (hu : u < 18446744073709551616) (hk : k < K4) (hl : l < K4) (x y : Nat) (i : Bool) (hx : x < K4) (hy : y < K4) (ht : Sh.TabAt w 1) (htr : Sh.TabAt w 0) : Calls Tryz.prog 7 #[opv (l32 g) u k l, pv x y i] w (Gets w (.bool true)) := by
  refine Sy.enter (args := [opv (l32 g) u k l, pv x y i]) Tryz.func7 rfl kL ?_
  refine sC ?_
  refine sM 49 (opcs (l32 g) u k l) (fun g0 => ?_)
  refine sM 52 (pcs x y i) (fun g1 => ?_)
  refine sP (.bool false) ?_
  refine sH (fun j => false) ?_
  refine sD 0 rfl (.bool true) (qF 22 #[] (alive7)) <| sZ 1 rfl (.bool true) <| sZ 2 rfl (.pointer (some ⟨g0, 0, none⟩)) <| sD 3 rfl (.agg ((l32 g).map bv).toArray) (qL 0 g0 0 32 49 47 (opcs (l32 g) u k l) rfl Tryz.underlying47) <| sZ 4 rfl (.pointer (some ⟨g0, 33, none⟩)) <| sD 5 rfl (fv k) (qL 0 g0 33 4 49 24 (opcs (l32 g) u k l) rfl Tryz.underlying24) ?_
  obtain ⟨R1, hR1⟩ : ∃ P : Pt, P = assP (l32 g) k := ⟨_, rfl⟩
  have oR1 : Ec.On R1 := by rw [hR1]; exact assP_on _ _
  refine sD 6 rfl (pv (pX R1) (pY R1) (pI R1)) (qG 23 #[.agg ((l32 g).map bv).toArray, fv k] (fun w hw => ass_of (l32_len g) lP (ht.below hw.below ht.lt) hR1.symm)) <| sZ 7 rfl (.pointer (some ⟨g0, 0, none⟩)) <| sD 8 rfl (.agg ((l32 g).map bv).toArray) (qL 0 g0 0 32 49 47 (opcs (l32 g) u k l) rfl Tryz.underlying47) <| sZ 9 rfl (.pointer (some ⟨g0, 33, none⟩)) <| sD 10 rfl (fv k) (qL 0 g0 33 4 49 24 (opcs (l32 g) u k l) rfl Tryz.underlying24) <| sD 11 rfl (pv (pX R1) (pY R1) (pI R1)) (qG 24 #[.agg ((l32 g).map bv).toArray, fv k] (fun w hw => assR_of (l32_len g) lP (htr.below hw.below htr.lt) hR1.symm)) <| sD 12 rfl (.bool true) (Quiet.pure (fun w => eql_pt_same w _ _ _ _ _ _ _ rfl rfl rfl lP lP)) <| sZ 13 rfl (.bool true) ?_
  refine sZ 14 rfl (.bool true) <| sZ 15 rfl (.pointer (some ⟨g0, 32, none⟩)) <| sD 16 rfl (.int .u64 ((u : Nat) : Int)) (qC 0 g0 32 49 22 (opcs (l32 g) u k l) rfl Tryz.underlying22) <| sD 17 rfl (pv x y i) (qL 1 g1 0 9 52 52 (pcs x y i) rfl Tryz.underlying52) <| sZ 18 rfl (.pointer (some ⟨g0, 37, none⟩)) <| sD 19 rfl (fv l) (qL 0 g0 37 4 49 24 (opcs (l32 g) u k l) rfl Tryz.underlying24) ?_
  obtain ⟨R2, hR2⟩ : ∃ P : Pt, P = valP u (dec x y i) l := ⟨_, rfl⟩
  have oR2 : Ec.On R2 := by rw [hR2]; exact valP_on (dec_on _ _ _) _ _
  refine sD 20 rfl (pv (pX R2) (pY R2) (pI R2)) (qF 25 #[.int .u64 ((u : Nat) : Int), pv x y i, fv l] (val_of (by assumption) lP lP lP rfl hR2.symm)) <| sZ 21 rfl (.pointer (some ⟨g0, 32, none⟩)) <| sD 22 rfl (.int .u64 ((u : Nat) : Int)) (qC 0 g0 32 49 22 (opcs (l32 g) u k l) rfl Tryz.underlying22) <| sD 23 rfl (pv x y i) (qL 1 g1 0 9 52 52 (pcs x y i) rfl Tryz.underlying52) <| sZ 24 rfl (.pointer (some ⟨g0, 37, none⟩)) <| sD 25 rfl (fv l) (qL 0 g0 37 4 49 24 (opcs (l32 g) u k l) rfl Tryz.underlying24) <| sD 26 rfl (pv (pX R2) (pY R2) (pI R2)) (qF 26 #[.int .u64 ((u : Nat) : Int), pv x y i, fv l] (valR_of (by assumption) lP lP lP rfl hR2.symm)) <| sD 27 rfl (.bool true) (Quiet.pure (fun w => eql_pt_same w _ _ _ _ _ _ _ rfl rfl rfl lP lP)) ?_
  refine sZ 28 rfl (.bool true) <| sZ 29 rfl (.bool true) ?_
  refine sI ?_
  refine Sy.ret ?_
  exact rV (.bool true) rfl
end Go.Proofs.YtbofhoonlmikcaaGreatDoor.Cu

end
section
namespace Go.Proofs.YtbofhoonlmikcaaGreatDoor.Cu
open Go.RowKit Go.Proofs.YtbofhoonlmikcaaGreatDoor Go.Proofs.YtbofhoonlmikcaaGreatDoor.Sy
set_option maxRecDepth 100000
set_option maxHeartbeats 4000000

def hidB (x y : Nat) (i : Bool) : Bool := rightB x y i && !sameB x y i 0 0 true
def rtagB (b : Bool) (id : List UInt8) (x y : Nat) (i : Bool) : Bool := if b = true then decide (id = l32 (fun _ => (0 : UInt8))) && hidB x y i else sameB x y i 0 0 false
def ramtB (b : Bool) (v x y : Nat) (i : Bool) : Bool := if b = true then decide (v = 0) && hidB x y i else sameB x y i 0 0 false
theorem hid_inf (x y : Nat) (i : Bool) : hidB x y i = (rightB x y i && !i) := by
  unfold hidB
  cases i with
  | false => unfold sameB; simp
  | true =>
    cases h : rightB x y true with
    | false => rfl
    | true =>
      have q := rightB_inf x y
      rw [h] at q
      rw [q]
theorem hides_any (w : World) (x y : Nat) (i : Bool) (hx : x < K4) (hy : y < K4) : Calls Tryz.prog 68 #[pv x y i] w (Gets w (.bool (hidB x y i))) := by
  refine Sy.enter (args := [pv x y i]) Tryz.func68 rfl kL ?_
  refine sC ?_
  refine sM 52 (pcs x y i) (fun g0 => ?_)
  refine sP (.bool false) ?_
  refine sH (fun j => false) ?_
  refine sD 0 rfl (pv x y i) (qL 0 g0 0 9 52 52 (pcs x y i) rfl Tryz.underlying52) ?_
  obtain ⟨b1, hb1⟩ : ∃ z : Bool, z = rightB x y i := ⟨_, rfl⟩
  refine sD 1 rfl (.bool b1) (qF 121 #[pv x y i] (fun w => by rw [hb1]; exact right_b w x y i lP lP)) <| sZ 2 rfl (.bool b1) ?_
  cases b1
  · refine sQ 3 rfl <| sQ 4 rfl <| sQ 5 rfl <| sZ 6 rfl (.bool false) <| sZ 7 rfl (.bool false) ?_
    refine sI ?_
    refine Sy.ret ?_
    rw [show (.bool (hidB x y i) : Value) = .bool false from by unfold hidB; rw [← hb1] <;> rfl]
    exact rV (.bool false) rfl
  · refine sD 3 rfl (pv x y i) (qL 0 g0 0 9 52 52 (pcs x y i) rfl Tryz.underlying52) <| sD 4 rfl (pv 0 0 true) (qF 105 #[] (zero_c)) ?_
    obtain ⟨b2, hb2⟩ : ∃ z : Bool, z = sameB x y i 0 0 true := ⟨_, rfl⟩
    cases b2
    · refine sD 5 rfl (.bool true) (Quiet.pure (fun w => (neq_pt w _ _ _ _ _ _ _ _ _ _ rfl rfl rfl lP lP lP lP).trans (by rw [← hb2]; rfl))) <| sZ 6 rfl (.bool true) <| sZ 7 rfl (.bool true) ?_
      refine sI ?_
      refine Sy.ret ?_
      rw [show (.bool (hidB x y i) : Value) = .bool true from by unfold hidB; rw [← hb1, ← hb2] <;> rfl]
      exact rV (.bool true) rfl
    · refine sD 5 rfl (.bool false) (Quiet.pure (fun w => (neq_pt w _ _ _ _ _ _ _ _ _ _ rfl rfl rfl lP lP lP lP).trans (by rw [← hb2]; rfl))) <| sZ 6 rfl (.bool false) <| sZ 7 rfl (.bool false) ?_
      refine sI ?_
      refine Sy.ret ?_
      rw [show (.bool (hidB x y i) : Value) = .bool false from by unfold hidB; rw [← hb1, ← hb2] <;> rfl]
      exact rV (.bool false) rfl
theorem rtag_t (w : World) (f : Nat → UInt8) (x y : Nat) (i : Bool) (hx : x < K4) (hy : y < K4) : Calls Tryz.prog 27 #[tgv true (l32 f) x y i] w (Gets w (.bool (rtagB true (l32 f) x y i))) := by
  refine Sy.enter (args := [tgv true (l32 f) x y i]) Tryz.func27 rfl kL ?_
  refine sC ?_
  refine sM 57 (tgcs true (l32 f) x y i) (fun g0 => ?_)
  refine sP (.bool false) ?_
  refine sG ?_
  refine Sy.seq ?_
  refine sC ?_
  refine sP (.pointer (some ⟨g0, 0, none⟩)) <| sS (.bool true) (qC 0 g0 0 57 4 (tgcs true (l32 f) x y i) rfl Tryz.underlying4) ?_
  refine sG ?_
  refine sT ?_
  refine sC ?_
  refine sP (.pointer (some ⟨g0, 1, none⟩)) <| sS (.agg ((l32 f).map bv).toArray) (qL 0 g0 1 32 57 47 (tgcs true (l32 f) x y i) rfl Tryz.underlying47) <| sP (.agg ((l32 (fun _ => (0 : UInt8))).map bv).toArray) ?_
  obtain ⟨b1, hb1⟩ : ∃ z : Bool, z = decide ((l32 f) = (l32 (fun _ => (0 : UInt8)))) := ⟨_, rfl⟩
  cases b1
  · refine sS (.bool false) (Quiet.pure (fun w => (eql_digest w _ _ _ _ (l32 f) (l32 (fun _ => (0 : UInt8))) (l32_len f) (l32_len (fun _ => (0 : UInt8))) rfl rfl rfl).trans (by rw [← hb1]))) <| sP (.bool false) ?_
    refine sN ?_
    refine sN ?_
    refine sN ?_
    refine sP (.bool false) <| sP (.bool false) ?_
    refine sG ?_
    refine Sy.ret ?_
    refine Sy.then_ret ?_
    rw [show (.bool (rtagB true (l32 f) x y i) : Value) = .bool false from by unfold rtagB; rw [if_pos rfl]; rw [← hb1] <;> rfl]
    exact rV (.bool false) rfl
  · refine sS (.bool true) (Quiet.pure (fun w => (eql_digest w _ _ _ _ (l32 f) (l32 (fun _ => (0 : UInt8))) (l32_len f) (l32_len (fun _ => (0 : UInt8))) rfl rfl rfl).trans (by rw [← hb1]))) <| sP (.bool true) <| sP (.pointer (some ⟨g0, 33, none⟩)) <| sS (pv x y i) (qL 0 g0 33 9 57 52 (tgcs true (l32 f) x y i) rfl Tryz.underlying52) ?_
    obtain ⟨b2, hb2⟩ : ∃ z : Bool, z = hidB x y i := ⟨_, rfl⟩
    refine sS (.bool b2) (qF 68 #[pv x y i] (fun w => by rw [hb2]; exact hides_any w x y i lP lP)) <| sP (.bool b2) <| sP (.bool b2) ?_
    refine sG ?_
    refine Sy.ret ?_
    refine Sy.then_ret ?_
    rw [show (.bool (rtagB true (l32 f) x y i) : Value) = .bool b2 from by unfold rtagB; rw [if_pos rfl]; rw [← hb1, ← hb2] <;> rfl]
    exact rV (.bool b2) rfl
theorem rtagR_t (w : World) (f : Nat → UInt8) (x y : Nat) (i : Bool) (hx : x < K4) (hy : y < K4) : Calls Tryz.prog 28 #[tgv true (l32 f) x y i] w (Gets w (.bool (rtagB true (l32 f) x y i))) := by
  refine Sy.enter (args := [tgv true (l32 f) x y i]) Tryz.func28 rfl kL ?_
  refine sC ?_
  refine sM 57 (tgcs true (l32 f) x y i) (fun g0 => ?_)
  refine sP (.bool false) ?_
  refine sG ?_
  refine Sy.seq ?_
  refine sC ?_
  refine sP (.pointer (some ⟨g0, 0, none⟩)) <| sS (.bool true) (qC 0 g0 0 57 4 (tgcs true (l32 f) x y i) rfl Tryz.underlying4) <| sP (.bool false) ?_
  refine sG ?_
  refine sU ?_
  refine Sy.skip ?_
  refine sB ?_
  refine sP (.pointer (some ⟨g0, 33, none⟩)) <| sS (pv x y i) (qL 0 g0 33 9 57 52 (tgcs true (l32 f) x y i) rfl Tryz.underlying52) ?_
  obtain ⟨b1, hb1⟩ : ∃ z : Bool, z = rightB x y i := ⟨_, rfl⟩
  refine sS (.bool b1) (qF 69 #[pv x y i] (fun w => by rw [hb1]; exact rightR_b w x y i lP lP)) <| sP (.bool b1) ?_
  refine sA ?_
  refine sP (.bool b1) <| sP (.bool b1) ?_
  cases b1
  · refine sN ?_
    refine sN ?_
    refine sN ?_
    refine sN ?_
    refine sP (.bool false) <| sP (.bool false) ?_
    refine sN ?_
    refine sN ?_
    refine sN ?_
    refine sN ?_
    refine sP (.bool false) <| sP (.bool false) ?_
    refine sG ?_
    refine Sy.ret ?_
    rw [show (.bool (rtagB true (l32 f) x y i) : Value) = .bool false from by unfold rtagB; show Value.bool (if true = true then _ && hidB _ _ _ else _) = _; rw [if_pos rfl, hid_inf, Bool.and_comm]; rw [← hb1] <;> rfl]
    exact rV (.bool false) rfl
  · refine sP (.pointer (some ⟨g0, 33, none⟩)) <| sP (.pointer (some ⟨g0, 41, none⟩)) <| sS (.bool i) (qC 0 g0 41 57 4 (tgcs true (l32 f) x y i) rfl Tryz.underlying4) ?_
    cases i
    · refine sP (.bool true) <| sP (.bool true) <| sP (.bool true) <| sP (.pointer (some ⟨g0, 1, none⟩)) <| sS (.agg ((l32 f).map bv).toArray) (qL 0 g0 1 32 57 47 (tgcs true (l32 f) x y false) rfl Tryz.underlying47) <| sP (.agg ((l32 (fun _ => (0 : UInt8))).map bv).toArray) ?_
      obtain ⟨b2, hb2⟩ : ∃ z : Bool, z = decide ((l32 f) = (l32 (fun _ => (0 : UInt8)))) := ⟨_, rfl⟩
      cases b2
      · refine sS (.bool false) (Quiet.pure (fun w => (eql_digest w _ _ _ _ (l32 f) (l32 (fun _ => (0 : UInt8))) (l32_len f) (l32_len (fun _ => (0 : UInt8))) rfl rfl rfl).trans (by rw [← hb2]))) <| sP (.bool false) <| sP (.bool false) ?_
        refine sG ?_
        refine Sy.ret ?_
        rw [show (.bool (rtagB true (l32 f) x y false) : Value) = .bool false from by unfold rtagB; show Value.bool (if true = true then _ && hidB _ _ _ else _) = _; rw [if_pos rfl, hid_inf, Bool.and_comm]; rw [← hb1, ← hb2] <;> rfl]
        exact rV (.bool false) rfl
      · refine sS (.bool true) (Quiet.pure (fun w => (eql_digest w _ _ _ _ (l32 f) (l32 (fun _ => (0 : UInt8))) (l32_len f) (l32_len (fun _ => (0 : UInt8))) rfl rfl rfl).trans (by rw [← hb2]))) <| sP (.bool true) <| sP (.bool true) ?_
        refine sG ?_
        refine Sy.ret ?_
        rw [show (.bool (rtagB true (l32 f) x y false) : Value) = .bool true from by unfold rtagB; show Value.bool (if true = true then _ && hidB _ _ _ else _) = _; rw [if_pos rfl, hid_inf, Bool.and_comm]; rw [← hb1, ← hb2] <;> rfl]
        exact rV (.bool true) rfl
    · refine sP (.bool false) <| sP (.bool false) <| sP (.bool false) ?_
      refine sN ?_
      refine sN ?_
      refine sN ?_
      refine sN ?_
      refine sP (.bool false) <| sP (.bool false) ?_
      refine sG ?_
      refine Sy.ret ?_
      rw [show (.bool (rtagB true (l32 f) x y true) : Value) = .bool false from by unfold rtagB; show Value.bool (if true = true then _ && hidB _ _ _ else _) = _; rw [if_pos rfl, hid_inf, Bool.and_comm]; rw [← hb1] <;> rfl]
      exact rV (.bool false) rfl
theorem ramt_t (w : World) (v : Nat) (hv : v < 18446744073709551616) (x y : Nat) (i : Bool) (hx : x < K4) (hy : y < K4) : Calls Tryz.prog 29 #[amv true v x y i] w (Gets w (.bool (ramtB true v x y i))) := by
  refine Sy.enter (args := [amv true v x y i]) Tryz.func29 rfl kL ?_
  refine sC ?_
  refine sM 59 (amcs true v x y i) (fun g0 => ?_)
  refine sP (.bool false) ?_
  refine sG ?_
  refine Sy.seq ?_
  refine sC ?_
  refine sP (.pointer (some ⟨g0, 0, none⟩)) <| sS (.bool true) (qC 0 g0 0 59 4 (amcs true v x y i) rfl Tryz.underlying4) ?_
  refine sG ?_
  refine sT ?_
  refine sC ?_
  refine sP (.pointer (some ⟨g0, 1, none⟩)) <| sS (.int .u64 ((v : Nat) : Int)) (qC 0 g0 1 59 22 (amcs true v x y i) rfl Tryz.underlying22) ?_
  obtain ⟨b1, hb1⟩ : ∃ z : Bool, z = decide (v = 0) := ⟨_, rfl⟩
  cases b1
  · refine sS (.bool false) (Quiet.pure (exec_int .eql _ _ _ .u64 _ _ _ rfl rfl rfl (int_eql _ _ _ _ _ ((decide_eq_decide.2 (by omega)).trans hb1.symm)))) <| sP (.bool false) ?_
    refine sN ?_
    refine sN ?_
    refine sN ?_
    refine sP (.bool false) <| sP (.bool false) ?_
    refine sG ?_
    refine Sy.ret ?_
    refine Sy.then_ret ?_
    rw [show (.bool (ramtB true v x y i) : Value) = .bool false from by unfold ramtB; rw [if_pos rfl]; rw [← hb1] <;> rfl]
    exact rV (.bool false) rfl
  · refine sS (.bool true) (Quiet.pure (exec_int .eql _ _ _ .u64 _ _ _ rfl rfl rfl (int_eql _ _ _ _ _ ((decide_eq_decide.2 (by omega)).trans hb1.symm)))) <| sP (.bool true) <| sP (.pointer (some ⟨g0, 2, none⟩)) <| sS (pv x y i) (qL 0 g0 2 9 59 52 (amcs true v x y i) rfl Tryz.underlying52) ?_
    obtain ⟨b2, hb2⟩ : ∃ z : Bool, z = hidB x y i := ⟨_, rfl⟩
    refine sS (.bool b2) (qF 68 #[pv x y i] (fun w => by rw [hb2]; exact hides_any w x y i lP lP)) <| sP (.bool b2) <| sP (.bool b2) ?_
    refine sG ?_
    refine Sy.ret ?_
    refine Sy.then_ret ?_
    rw [show (.bool (ramtB true v x y i) : Value) = .bool b2 from by unfold ramtB; rw [if_pos rfl]; rw [← hb1, ← hb2] <;> rfl]
    exact rV (.bool b2) rfl
theorem ramtR_t (w : World) (v : Nat) (hv : v < 18446744073709551616) (x y : Nat) (i : Bool) (hx : x < K4) (hy : y < K4) : Calls Tryz.prog 30 #[amv true v x y i] w (Gets w (.bool (ramtB true v x y i))) := by
  refine Sy.enter (args := [amv true v x y i]) Tryz.func30 rfl kL ?_
  refine sC ?_
  refine sM 59 (amcs true v x y i) (fun g0 => ?_)
  refine sP (.bool false) ?_
  refine sG ?_
  refine Sy.seq ?_
  refine sC ?_
  refine sP (.pointer (some ⟨g0, 0, none⟩)) <| sS (.bool true) (qC 0 g0 0 59 4 (amcs true v x y i) rfl Tryz.underlying4) <| sP (.bool false) ?_
  refine sG ?_
  refine sU ?_
  refine Sy.skip ?_
  refine sB ?_
  refine sP (.pointer (some ⟨g0, 2, none⟩)) <| sS (pv x y i) (qL 0 g0 2 9 59 52 (amcs true v x y i) rfl Tryz.underlying52) ?_
  obtain ⟨b1, hb1⟩ : ∃ z : Bool, z = rightB x y i := ⟨_, rfl⟩
  refine sS (.bool b1) (qF 69 #[pv x y i] (fun w => by rw [hb1]; exact rightR_b w x y i lP lP)) <| sP (.bool b1) ?_
  refine sA ?_
  refine sP (.bool b1) <| sP (.bool b1) ?_
  cases b1
  · refine sN ?_
    refine sN ?_
    refine sN ?_
    refine sN ?_
    refine sP (.bool false) <| sP (.bool false) ?_
    refine sN ?_
    refine sN ?_
    refine sN ?_
    refine sP (.bool false) <| sP (.bool false) ?_
    refine sG ?_
    refine Sy.ret ?_
    rw [show (.bool (ramtB true v x y i) : Value) = .bool false from by unfold ramtB; show Value.bool (if true = true then _ && hidB _ _ _ else _) = _; rw [if_pos rfl, hid_inf, Bool.and_comm]; rw [← hb1] <;> rfl]
    exact rV (.bool false) rfl
  · refine sP (.pointer (some ⟨g0, 2, none⟩)) <| sP (.pointer (some ⟨g0, 10, none⟩)) <| sS (.bool i) (qC 0 g0 10 59 4 (amcs true v x y i) rfl Tryz.underlying4) ?_
    cases i
    · refine sP (.bool true) <| sP (.bool true) <| sP (.bool true) <| sP (.pointer (some ⟨g0, 1, none⟩)) <| sS (.int .u64 ((v : Nat) : Int)) (qC 0 g0 1 59 22 (amcs true v x y false) rfl Tryz.underlying22) ?_
      obtain ⟨b2, hb2⟩ : ∃ z : Bool, z = decide (v = 0) := ⟨_, rfl⟩
      cases b2
      · refine sS (.bool false) (Quiet.pure (exec_int .eql _ _ _ .u64 _ _ _ rfl rfl rfl (int_eql _ _ _ _ _ ((decide_eq_decide.2 (by omega)).trans hb2.symm)))) <| sP (.bool false) <| sP (.bool false) ?_
        refine sG ?_
        refine Sy.ret ?_
        rw [show (.bool (ramtB true v x y false) : Value) = .bool false from by unfold ramtB; show Value.bool (if true = true then _ && hidB _ _ _ else _) = _; rw [if_pos rfl, hid_inf, Bool.and_comm]; rw [← hb1, ← hb2] <;> rfl]
        exact rV (.bool false) rfl
      · refine sS (.bool true) (Quiet.pure (exec_int .eql _ _ _ .u64 _ _ _ rfl rfl rfl (int_eql _ _ _ _ _ ((decide_eq_decide.2 (by omega)).trans hb2.symm)))) <| sP (.bool true) <| sP (.bool true) ?_
        refine sG ?_
        refine Sy.ret ?_
        rw [show (.bool (ramtB true v x y false) : Value) = .bool true from by unfold ramtB; show Value.bool (if true = true then _ && hidB _ _ _ else _) = _; rw [if_pos rfl, hid_inf, Bool.and_comm]; rw [← hb1, ← hb2] <;> rfl]
        exact rV (.bool true) rfl
    · refine sP (.bool false) <| sP (.bool false) <| sP (.bool false) ?_
      refine sN ?_
      refine sN ?_
      refine sN ?_
      refine sP (.bool false) <| sP (.bool false) ?_
      refine sG ?_
      refine Sy.ret ?_
      rw [show (.bool (ramtB true v x y true) : Value) = .bool false from by unfold ramtB; show Value.bool (if true = true then _ && hidB _ _ _ else _) = _; rw [if_pos rfl, hid_inf, Bool.and_comm]; rw [← hb1] <;> rfl]
      exact rV (.bool false) rfl
theorem rtag_f (w : World) (f : Nat → UInt8) (x y : Nat) (i : Bool) (hx : x < K4) (hy : y < K4) : Calls Tryz.prog 27 #[tgv false (l32 f) x y i] w (Gets w (.bool (rtagB false (l32 f) x y i))) := by
  refine Sy.enter (args := [tgv false (l32 f) x y i]) Tryz.func27 rfl kL ?_
  refine sC ?_
  refine sM 57 (tgcs false (l32 f) x y i) (fun g0 => ?_)
  refine sP (.bool false) ?_
  refine sG ?_
  refine Sy.seq ?_
  refine sC ?_
  refine sP (.pointer (some ⟨g0, 0, none⟩)) <| sS (.bool false) (qC 0 g0 0 57 4 (tgcs false (l32 f) x y i) rfl Tryz.underlying4) ?_
  refine sG ?_
  refine sU ?_
  refine Sy.skip ?_
  refine sB ?_
  refine sP (.pointer (some ⟨g0, 33, none⟩)) <| sS (pv x y i) (qL 0 g0 33 9 57 52 (tgcs false (l32 f) x y i) rfl Tryz.underlying52) <| sP (pv 0 0 false) ?_
  obtain ⟨b1, hb1⟩ : ∃ z : Bool, z = sameB x y i 0 0 false := ⟨_, rfl⟩
  cases b1
  · refine sS (.bool false) (Quiet.pure (fun w => (eql_pt w _ _ _ _ _ _ _ _ _ _ rfl rfl rfl lP lP lP lP).trans (by rw [← hb1]))) <| sP (.bool false) ?_
    refine sG ?_
    refine Sy.ret ?_
    rw [show (.bool (rtagB false (l32 f) x y i) : Value) = .bool false from by unfold rtagB; rw [if_neg (by decide)]; rw [← hb1] <;> rfl]
    exact rV (.bool false) rfl
  · refine sS (.bool true) (Quiet.pure (fun w => (eql_pt w _ _ _ _ _ _ _ _ _ _ rfl rfl rfl lP lP lP lP).trans (by rw [← hb1]))) <| sP (.bool true) ?_
    refine sG ?_
    refine Sy.ret ?_
    rw [show (.bool (rtagB false (l32 f) x y i) : Value) = .bool true from by unfold rtagB; rw [if_neg (by decide)]; rw [← hb1] <;> rfl]
    exact rV (.bool true) rfl
theorem rtagR_f (w : World) (f : Nat → UInt8) (x y : Nat) (i : Bool) (hx : x < K4) (hy : y < K4) : Calls Tryz.prog 28 #[tgv false (l32 f) x y i] w (Gets w (.bool (rtagB false (l32 f) x y i))) := by
  refine Sy.enter (args := [tgv false (l32 f) x y i]) Tryz.func28 rfl kL ?_
  refine sC ?_
  refine sM 57 (tgcs false (l32 f) x y i) (fun g0 => ?_)
  refine sP (.bool false) ?_
  refine sG ?_
  refine Sy.seq ?_
  refine sC ?_
  refine sP (.pointer (some ⟨g0, 0, none⟩)) <| sS (.bool false) (qC 0 g0 0 57 4 (tgcs false (l32 f) x y i) rfl Tryz.underlying4) <| sP (.bool true) ?_
  refine sG ?_
  refine sT ?_
  refine sC ?_
  refine sP (.pointer (some ⟨g0, 33, none⟩)) <| sS (pv x y i) (qL 0 g0 33 9 57 52 (tgcs false (l32 f) x y i) rfl Tryz.underlying52) <| sP (pv 0 0 false) ?_
  obtain ⟨b1, hb1⟩ : ∃ z : Bool, z = sameB x y i 0 0 false := ⟨_, rfl⟩
  cases b1
  · refine sS (.bool false) (Quiet.pure (fun w => (eql_pt w _ _ _ _ _ _ _ _ _ _ rfl rfl rfl lP lP lP lP).trans (by rw [← hb1]))) <| sP (.bool false) ?_
    refine sG ?_
    refine Sy.ret ?_
    refine Sy.then_ret ?_
    rw [show (.bool (rtagB false (l32 f) x y i) : Value) = .bool false from by unfold rtagB; rw [if_neg (by decide)]; rw [← hb1] <;> rfl]
    exact rV (.bool false) rfl
  · refine sS (.bool true) (Quiet.pure (fun w => (eql_pt w _ _ _ _ _ _ _ _ _ _ rfl rfl rfl lP lP lP lP).trans (by rw [← hb1]))) <| sP (.bool true) ?_
    refine sG ?_
    refine Sy.ret ?_
    refine Sy.then_ret ?_
    rw [show (.bool (rtagB false (l32 f) x y i) : Value) = .bool true from by unfold rtagB; rw [if_neg (by decide)]; rw [← hb1] <;> rfl]
    exact rV (.bool true) rfl
theorem ramt_f (w : World) (v : Nat) (hv : v < 18446744073709551616) (x y : Nat) (i : Bool) (hx : x < K4) (hy : y < K4) : Calls Tryz.prog 29 #[amv false v x y i] w (Gets w (.bool (ramtB false v x y i))) := by
  refine Sy.enter (args := [amv false v x y i]) Tryz.func29 rfl kL ?_
  refine sC ?_
  refine sM 59 (amcs false v x y i) (fun g0 => ?_)
  refine sP (.bool false) ?_
  refine sG ?_
  refine Sy.seq ?_
  refine sC ?_
  refine sP (.pointer (some ⟨g0, 0, none⟩)) <| sS (.bool false) (qC 0 g0 0 59 4 (amcs false v x y i) rfl Tryz.underlying4) ?_
  refine sG ?_
  refine sU ?_
  refine Sy.skip ?_
  refine sB ?_
  refine sP (.pointer (some ⟨g0, 2, none⟩)) <| sS (pv x y i) (qL 0 g0 2 9 59 52 (amcs false v x y i) rfl Tryz.underlying52) <| sP (pv 0 0 false) ?_
  obtain ⟨b1, hb1⟩ : ∃ z : Bool, z = sameB x y i 0 0 false := ⟨_, rfl⟩
  cases b1
  · refine sS (.bool false) (Quiet.pure (fun w => (eql_pt w _ _ _ _ _ _ _ _ _ _ rfl rfl rfl lP lP lP lP).trans (by rw [← hb1]))) <| sP (.bool false) ?_
    refine sG ?_
    refine Sy.ret ?_
    rw [show (.bool (ramtB false v x y i) : Value) = .bool false from by unfold ramtB; rw [if_neg (by decide)]; rw [← hb1] <;> rfl]
    exact rV (.bool false) rfl
  · refine sS (.bool true) (Quiet.pure (fun w => (eql_pt w _ _ _ _ _ _ _ _ _ _ rfl rfl rfl lP lP lP lP).trans (by rw [← hb1]))) <| sP (.bool true) ?_
    refine sG ?_
    refine Sy.ret ?_
    rw [show (.bool (ramtB false v x y i) : Value) = .bool true from by unfold ramtB; rw [if_neg (by decide)]; rw [← hb1] <;> rfl]
    exact rV (.bool true) rfl
theorem ramtR_f (w : World) (v : Nat) (hv : v < 18446744073709551616) (x y : Nat) (i : Bool) (hx : x < K4) (hy : y < K4) : Calls Tryz.prog 30 #[amv false v x y i] w (Gets w (.bool (ramtB false v x y i))) := by
  refine Sy.enter (args := [amv false v x y i]) Tryz.func30 rfl kL ?_
  refine sC ?_
  refine sM 59 (amcs false v x y i) (fun g0 => ?_)
  refine sP (.bool false) ?_
  refine sG ?_
  refine Sy.seq ?_
  refine sC ?_
  refine sP (.pointer (some ⟨g0, 0, none⟩)) <| sS (.bool false) (qC 0 g0 0 59 4 (amcs false v x y i) rfl Tryz.underlying4) <| sP (.bool true) ?_
  refine sG ?_
  refine sT ?_
  refine sC ?_
  refine sP (.pointer (some ⟨g0, 2, none⟩)) <| sS (pv x y i) (qL 0 g0 2 9 59 52 (amcs false v x y i) rfl Tryz.underlying52) <| sP (pv 0 0 false) ?_
  obtain ⟨b1, hb1⟩ : ∃ z : Bool, z = sameB x y i 0 0 false := ⟨_, rfl⟩
  cases b1
  · refine sS (.bool false) (Quiet.pure (fun w => (eql_pt w _ _ _ _ _ _ _ _ _ _ rfl rfl rfl lP lP lP lP).trans (by rw [← hb1]))) <| sP (.bool false) ?_
    refine sG ?_
    refine Sy.ret ?_
    refine Sy.then_ret ?_
    rw [show (.bool (ramtB false v x y i) : Value) = .bool false from by unfold ramtB; rw [if_neg (by decide)]; rw [← hb1] <;> rfl]
    exact rV (.bool false) rfl
  · refine sS (.bool true) (Quiet.pure (fun w => (eql_pt w _ _ _ _ _ _ _ _ _ _ rfl rfl rfl lP lP lP lP).trans (by rw [← hb1]))) <| sP (.bool true) ?_
    refine sG ?_
    refine Sy.ret ?_
    refine Sy.then_ret ?_
    rw [show (.bool (ramtB false v x y i) : Value) = .bool true from by unfold ramtB; rw [if_neg (by decide)]; rw [← hb1] <;> rfl]
    exact rV (.bool true) rfl
theorem rtag_any (w : World) (b : Bool) (f : Nat → UInt8) (x y : Nat) (i : Bool) (hx : x < K4) (hy : y < K4) : Calls Tryz.prog 27 #[tgv b (l32 f) x y i] w (Gets w (.bool (rtagB b (l32 f) x y i))) := by
  cases b
  · exact rtag_f w f x y i hx hy
  · exact rtag_t w f x y i hx hy
theorem rtagR_any (w : World) (b : Bool) (f : Nat → UInt8) (x y : Nat) (i : Bool) (hx : x < K4) (hy : y < K4) : Calls Tryz.prog 28 #[tgv b (l32 f) x y i] w (Gets w (.bool (rtagB b (l32 f) x y i))) := by
  cases b
  · exact rtagR_f w f x y i hx hy
  · exact rtagR_t w f x y i hx hy
theorem ramt_any (w : World) (b : Bool) (v : Nat) (hv : v < 18446744073709551616) (x y : Nat) (i : Bool) (hx : x < K4) (hy : y < K4) : Calls Tryz.prog 29 #[amv b v x y i] w (Gets w (.bool (ramtB b v x y i))) := by
  cases b
  · exact ramt_f w v hv x y i hx hy
  · exact ramt_t w v hv x y i hx hy
theorem ramtR_any (w : World) (b : Bool) (v : Nat) (hv : v < 18446744073709551616) (x y : Nat) (i : Bool) (hx : x < K4) (hy : y < K4) : Calls Tryz.prog 30 #[amv b v x y i] w (Gets w (.bool (ramtB b v x y i))) := by
  cases b
  · exact ramtR_f w v hv x y i hx hy
  · exact ramtR_t w v hv x y i hx hy
theorem tag_t (w : World) (f : Nat → UInt8) (x y : Nat) (i : Bool) (hx : x < K4) (hy : y < K4) (ht : Sh.TabAt w 1) : Calls Tryz.prog 31 #[tgv true (l32 f) x y i] w (Gets w (pv x y i)) := by
  refine Sy.enter (args := [tgv true (l32 f) x y i]) Tryz.func31 rfl kL ?_
  refine sC ?_
  refine sM 57 (tgcs true (l32 f) x y i) (fun g0 => ?_)
  refine sM 52 (pcs 0 0 false) (fun g1 => ?_)
  refine sG ?_
  refine Sy.seq ?_
  refine sC ?_
  refine sP (.pointer (some ⟨g0, 0, none⟩)) <| sS (.bool true) (qC 0 g0 0 57 4 (tgcs true (l32 f) x y i) rfl Tryz.underlying4) ?_
  refine sG ?_
  refine sT ?_
  refine sC ?_
  refine sP (.pointer (some ⟨g0, 33, none⟩)) <| sS (pv x y i) (qL 0 g0 33 9 57 52 (tgcs true (l32 f) x y i) rfl Tryz.underlying52) <| sW 1 g1 52 (pcs 0 0 false) (pcs x y i) (wS 0 52 (pcs x y i) rfl) ?_
  refine sG ?_
  refine Sy.ret ?_
  refine Sy.then_ret ?_
  exact rC (v := pv x y i) 52 g1 1 (pcs x y i) rfl Tryz.underlying52
theorem tagR_t (w : World) (f : Nat → UInt8) (x y : Nat) (i : Bool) (hx : x < K4) (hy : y < K4) (htr : Sh.TabAt w 0) : Calls Tryz.prog 32 #[tgv true (l32 f) x y i] w (Gets w (pv x y i)) := by
  refine Sy.enter (args := [tgv true (l32 f) x y i]) Tryz.func32 rfl kL ?_
  refine sC ?_
  refine sM 57 (tgcs true (l32 f) x y i) (fun g0 => ?_)
  refine sM 52 (pcs 0 0 false) (fun g1 => ?_)
  refine sG ?_
  refine Sy.seq ?_
  refine sC ?_
  refine sP (.pointer (some ⟨g0, 0, none⟩)) <| sS (.bool true) (qC 0 g0 0 57 4 (tgcs true (l32 f) x y i) rfl Tryz.underlying4) ?_
  refine sG ?_
  refine sT ?_
  refine sC ?_
  refine sP (.pointer (some ⟨g0, 33, none⟩)) <| sS (pv x y i) (qL 0 g0 33 9 57 52 (tgcs true (l32 f) x y i) rfl Tryz.underlying52) <| sW 1 g1 52 (pcs 0 0 false) (pcs x y i) (wS 0 52 (pcs x y i) rfl) ?_
  refine sG ?_
  refine Sy.ret ?_
  refine Sy.then_ret ?_
  exact rC (v := pv x y i) 52 g1 1 (pcs x y i) rfl Tryz.underlying52
theorem tag_f (w : World) (f : Nat → UInt8) (x y : Nat) (i : Bool) (hx : x < K4) (hy : y < K4) (ht : Sh.TabAt w 1) : Calls Tryz.prog 31 #[tgv false (l32 f) x y i] w (Gets w (ptv (genP (l32 f)))) := by
  refine Sy.enter (args := [tgv false (l32 f) x y i]) Tryz.func31 rfl kL ?_
  refine sC ?_
  refine sM 57 (tgcs false (l32 f) x y i) (fun g0 => ?_)
  refine sM 52 (pcs 0 0 false) (fun g1 => ?_)
  refine sG ?_
  refine Sy.seq ?_
  refine sC ?_
  refine sP (.pointer (some ⟨g0, 0, none⟩)) <| sS (.bool false) (qC 0 g0 0 57 4 (tgcs false (l32 f) x y i) rfl Tryz.underlying4) ?_
  refine sG ?_
  refine sU ?_
  refine Sy.skip ?_
  refine sB ?_
  refine sP (.pointer (some ⟨g0, 1, none⟩)) <| sS (.agg ((l32 f).map bv).toArray) (qL 0 g0 1 32 57 47 (tgcs false (l32 f) x y i) rfl Tryz.underlying47) ?_
  obtain ⟨R1, hR1⟩ : ∃ P : Pt, P = genP (l32 f) := ⟨_, rfl⟩
  have oR1 : Ec.On R1 := by rw [hR1]; exact genP_on _
  refine sS (pv (pX R1) (pY R1) (pI R1)) (qG 63 #[.agg ((l32 f).map bv).toArray] (fun w hw => by rw [← ptv_parts, hR1]; exact gen_any w (l32 f) (l32_len f) (ht.below hw.below ht.lt))) <| sW 1 g1 52 (pcs 0 0 false) (pcs (pX R1) (pY R1) (pI R1)) (wS 0 52 (pcs (pX R1) (pY R1) (pI R1)) rfl) ?_
  refine sG ?_
  refine Sy.ret ?_
  rw [show (ptv (genP (l32 f)) : Value) = pv (pX R1) (pY R1) (pI R1) from by rw [← ptv_parts, hR1]]
  exact rC (v := pv (pX R1) (pY R1) (pI R1)) 52 g1 1 (pcs (pX R1) (pY R1) (pI R1)) rfl Tryz.underlying52
theorem tagR_f (w : World) (f : Nat → UInt8) (x y : Nat) (i : Bool) (hx : x < K4) (hy : y < K4) (htr : Sh.TabAt w 0) : Calls Tryz.prog 32 #[tgv false (l32 f) x y i] w (Gets w (ptv (genP (l32 f)))) := by
  refine Sy.enter (args := [tgv false (l32 f) x y i]) Tryz.func32 rfl kL ?_
  refine sC ?_
  refine sM 57 (tgcs false (l32 f) x y i) (fun g0 => ?_)
  refine sM 52 (pcs 0 0 false) (fun g1 => ?_)
  refine sG ?_
  refine Sy.seq ?_
  refine sC ?_
  refine sP (.pointer (some ⟨g0, 0, none⟩)) <| sS (.bool false) (qC 0 g0 0 57 4 (tgcs false (l32 f) x y i) rfl Tryz.underlying4) ?_
  refine sG ?_
  refine sU ?_
  refine Sy.skip ?_
  refine sB ?_
  refine sP (.pointer (some ⟨g0, 1, none⟩)) <| sS (.agg ((l32 f).map bv).toArray) (qL 0 g0 1 32 57 47 (tgcs false (l32 f) x y i) rfl Tryz.underlying47) ?_
  obtain ⟨R1, hR1⟩ : ∃ P : Pt, P = genP (l32 f) := ⟨_, rfl⟩
  have oR1 : Ec.On R1 := by rw [hR1]; exact genP_on _
  refine sS (pv (pX R1) (pY R1) (pI R1)) (qG 64 #[.agg ((l32 f).map bv).toArray] (fun w hw => by rw [← ptv_parts, hR1]; exact genR_any w (l32 f) (l32_len f) (htr.below hw.below htr.lt))) <| sW 1 g1 52 (pcs 0 0 false) (pcs (pX R1) (pY R1) (pI R1)) (wS 0 52 (pcs (pX R1) (pY R1) (pI R1)) rfl) ?_
  refine sG ?_
  refine Sy.ret ?_
  rw [show (ptv (genP (l32 f)) : Value) = pv (pX R1) (pY R1) (pI R1) from by rw [← ptv_parts, hR1]]
  exact rC (v := pv (pX R1) (pY R1) (pI R1)) 52 g1 1 (pcs (pX R1) (pY R1) (pI R1)) rfl Tryz.underlying52
def tagP (b : Bool) (id : List UInt8) (x y : Nat) (i : Bool) : Pt := if b = true then dec x y i else genP id
def amtV (c : Bool) (v x2 y2 : Nat) (i2 : Bool) (P : Pt) : Value := if c = true then pv x2 y2 i2 else ptv (Ec.nm finv (v % Sc.pM) P)
theorem amt_tt (w : World) (f : Nat → UInt8) (x y : Nat) (i : Bool) (hx : x < K4) (hy : y < K4) (v : Nat) (hv : v < 18446744073709551616) (x2 y2 : Nat) (i2 : Bool) (hx2 : x2 < K4) (hy2 : y2 < K4) (ht : Sh.TabAt w 1) : Calls Tryz.prog 33 #[tgv true (l32 f) x y i, amv true v x2 y2 i2] w (Gets w (amtV true v x2 y2 i2 (tagP true (l32 f) x y i))) := by
  refine Sy.enter (args := [tgv true (l32 f) x y i, amv true v x2 y2 i2]) Tryz.func33 rfl kL ?_
  refine sC ?_
  refine sM 57 (tgcs true (l32 f) x y i) (fun g0 => ?_)
  refine sM 59 (amcs true v x2 y2 i2) (fun g1 => ?_)
  refine sM 52 (pcs 0 0 false) (fun g2 => ?_)
  refine sG ?_
  refine Sy.seq ?_
  refine sC ?_
  refine sP (.pointer (some ⟨g1, 0, none⟩)) <| sS (.bool true) (qC 1 g1 0 59 4 (amcs true v x2 y2 i2) rfl Tryz.underlying4) ?_
  refine sG ?_
  refine sT ?_
  refine sC ?_
  refine sP (.pointer (some ⟨g1, 2, none⟩)) <| sS (pv x2 y2 i2) (qL 1 g1 2 9 59 52 (amcs true v x2 y2 i2) rfl Tryz.underlying52) <| sW 2 g2 52 (pcs 0 0 false) (pcs x2 y2 i2) (wS 0 52 (pcs x2 y2 i2) rfl) ?_
  refine sG ?_
  refine Sy.ret ?_
  refine Sy.then_ret ?_
  rw [show (amtV true v x2 y2 i2 (tagP true (l32 f) x y i) : Value) = pv x2 y2 i2 from rfl]
  exact rC (v := pv x2 y2 i2) 52 g2 2 (pcs x2 y2 i2) rfl Tryz.underlying52
theorem amtR_tt (w : World) (f : Nat → UInt8) (x y : Nat) (i : Bool) (hx : x < K4) (hy : y < K4) (v : Nat) (hv : v < 18446744073709551616) (x2 y2 : Nat) (i2 : Bool) (hx2 : x2 < K4) (hy2 : y2 < K4) (htr : Sh.TabAt w 0) : Calls Tryz.prog 34 #[tgv true (l32 f) x y i, amv true v x2 y2 i2] w (Gets w (amtV true v x2 y2 i2 (tagP true (l32 f) x y i))) := by
  refine Sy.enter (args := [tgv true (l32 f) x y i, amv true v x2 y2 i2]) Tryz.func34 rfl kL ?_
  refine sC ?_
  refine sM 57 (tgcs true (l32 f) x y i) (fun g0 => ?_)
  refine sM 59 (amcs true v x2 y2 i2) (fun g1 => ?_)
  refine sM 52 (pcs 0 0 false) (fun g2 => ?_)
  refine sG ?_
  refine Sy.seq ?_
  refine sC ?_
  refine sP (.pointer (some ⟨g1, 0, none⟩)) <| sS (.bool true) (qC 1 g1 0 59 4 (amcs true v x2 y2 i2) rfl Tryz.underlying4) ?_
  refine sG ?_
  refine sT ?_
  refine sC ?_
  refine sP (.pointer (some ⟨g1, 2, none⟩)) <| sS (pv x2 y2 i2) (qL 1 g1 2 9 59 52 (amcs true v x2 y2 i2) rfl Tryz.underlying52) <| sW 2 g2 52 (pcs 0 0 false) (pcs x2 y2 i2) (wS 0 52 (pcs x2 y2 i2) rfl) ?_
  refine sG ?_
  refine Sy.ret ?_
  refine Sy.then_ret ?_
  rw [show (amtV true v x2 y2 i2 (tagP true (l32 f) x y i) : Value) = pv x2 y2 i2 from rfl]
  exact rC (v := pv x2 y2 i2) 52 g2 2 (pcs x2 y2 i2) rfl Tryz.underlying52
theorem amt_tf (w : World) (f : Nat → UInt8) (x y : Nat) (i : Bool) (hx : x < K4) (hy : y < K4) (v : Nat) (hv : v < 18446744073709551616) (x2 y2 : Nat) (i2 : Bool) (hx2 : x2 < K4) (hy2 : y2 < K4) (ht : Sh.TabAt w 1) : Calls Tryz.prog 33 #[tgv false (l32 f) x y i, amv true v x2 y2 i2] w (Gets w (amtV true v x2 y2 i2 (tagP false (l32 f) x y i))) := by
  refine Sy.enter (args := [tgv false (l32 f) x y i, amv true v x2 y2 i2]) Tryz.func33 rfl kL ?_
  refine sC ?_
  refine sM 57 (tgcs false (l32 f) x y i) (fun g0 => ?_)
  refine sM 59 (amcs true v x2 y2 i2) (fun g1 => ?_)
  refine sM 52 (pcs 0 0 false) (fun g2 => ?_)
  refine sG ?_
  refine Sy.seq ?_
  refine sC ?_
  refine sP (.pointer (some ⟨g1, 0, none⟩)) <| sS (.bool true) (qC 1 g1 0 59 4 (amcs true v x2 y2 i2) rfl Tryz.underlying4) ?_
  refine sG ?_
  refine sT ?_
  refine sC ?_
  refine sP (.pointer (some ⟨g1, 2, none⟩)) <| sS (pv x2 y2 i2) (qL 1 g1 2 9 59 52 (amcs true v x2 y2 i2) rfl Tryz.underlying52) <| sW 2 g2 52 (pcs 0 0 false) (pcs x2 y2 i2) (wS 0 52 (pcs x2 y2 i2) rfl) ?_
  refine sG ?_
  refine Sy.ret ?_
  refine Sy.then_ret ?_
  rw [show (amtV true v x2 y2 i2 (tagP false (l32 f) x y i) : Value) = pv x2 y2 i2 from rfl]
  exact rC (v := pv x2 y2 i2) 52 g2 2 (pcs x2 y2 i2) rfl Tryz.underlying52
theorem amtR_tf (w : World) (f : Nat → UInt8) (x y : Nat) (i : Bool) (hx : x < K4) (hy : y < K4) (v : Nat) (hv : v < 18446744073709551616) (x2 y2 : Nat) (i2 : Bool) (hx2 : x2 < K4) (hy2 : y2 < K4) (htr : Sh.TabAt w 0) : Calls Tryz.prog 34 #[tgv false (l32 f) x y i, amv true v x2 y2 i2] w (Gets w (amtV true v x2 y2 i2 (tagP false (l32 f) x y i))) := by
  refine Sy.enter (args := [tgv false (l32 f) x y i, amv true v x2 y2 i2]) Tryz.func34 rfl kL ?_
  refine sC ?_
  refine sM 57 (tgcs false (l32 f) x y i) (fun g0 => ?_)
  refine sM 59 (amcs true v x2 y2 i2) (fun g1 => ?_)
  refine sM 52 (pcs 0 0 false) (fun g2 => ?_)
  refine sG ?_
  refine Sy.seq ?_
  refine sC ?_
  refine sP (.pointer (some ⟨g1, 0, none⟩)) <| sS (.bool true) (qC 1 g1 0 59 4 (amcs true v x2 y2 i2) rfl Tryz.underlying4) ?_
  refine sG ?_
  refine sT ?_
  refine sC ?_
  refine sP (.pointer (some ⟨g1, 2, none⟩)) <| sS (pv x2 y2 i2) (qL 1 g1 2 9 59 52 (amcs true v x2 y2 i2) rfl Tryz.underlying52) <| sW 2 g2 52 (pcs 0 0 false) (pcs x2 y2 i2) (wS 0 52 (pcs x2 y2 i2) rfl) ?_
  refine sG ?_
  refine Sy.ret ?_
  refine Sy.then_ret ?_
  rw [show (amtV true v x2 y2 i2 (tagP false (l32 f) x y i) : Value) = pv x2 y2 i2 from rfl]
  exact rC (v := pv x2 y2 i2) 52 g2 2 (pcs x2 y2 i2) rfl Tryz.underlying52
theorem amt_ft (w : World) (f : Nat → UInt8) (x y : Nat) (i : Bool) (hx : x < K4) (hy : y < K4) (v : Nat) (hv : v < 18446744073709551616) (x2 y2 : Nat) (i2 : Bool) (hx2 : x2 < K4) (hy2 : y2 < K4) (ht : Sh.TabAt w 1) : Calls Tryz.prog 33 #[tgv true (l32 f) x y i, amv false v x2 y2 i2] w (Gets w (amtV false v x2 y2 i2 (tagP true (l32 f) x y i))) := by
  refine Sy.enter (args := [tgv true (l32 f) x y i, amv false v x2 y2 i2]) Tryz.func33 rfl kL ?_
  refine sC ?_
  refine sM 57 (tgcs true (l32 f) x y i) (fun g0 => ?_)
  refine sM 59 (amcs false v x2 y2 i2) (fun g1 => ?_)
  refine sM 52 (pcs 0 0 false) (fun g2 => ?_)
  refine sG ?_
  refine Sy.seq ?_
  refine sC ?_
  refine sP (.pointer (some ⟨g1, 0, none⟩)) <| sS (.bool false) (qC 1 g1 0 59 4 (amcs false v x2 y2 i2) rfl Tryz.underlying4) ?_
  refine sG ?_
  refine sU ?_
  refine Sy.skip ?_
  refine sR (fun j => j == 6) ?_
  refine sZ 0 rfl (.pointer (some ⟨g1, 1, none⟩)) <| sD 1 rfl (.int .u64 ((v : Nat) : Int)) (qC 1 g1 1 59 22 (amcs false v x2 y2 i2) rfl Tryz.underlying22) <| sD 2 rfl (fv v) (qF 66 #[.int .u64 ((v : Nat) : Int)] (fun w => Sc.of_any w v hv)) <| sD 3 rfl (tgv true (l32 f) x y i) (qL 0 g0 0 42 57 57 (tgcs true (l32 f) x y i) rfl Tryz.underlying57) <| sD 4 rfl (pv x y i) (qG 31 #[tgv true (l32 f) x y i] (fun w hw => tag_t w f x y i lP lP (ht.below hw.below ht.lt))) ?_
  obtain ⟨R1, hR1⟩ : ∃ P : Pt, P = Ec.nm finv (v % Sc.pM) (dec x y i) := ⟨_, rfl⟩
  have oR1 : Ec.On R1 := by rw [hR1]; exact (dec_on _ _ _).nm fld _
  refine sD 5 rfl (pv (pX R1) (pY R1) (pI R1)) (qF 70 #[fv v, pv x y i] (mul_of7 lP lP lP rfl hR1.symm)) <| sX 6 rfl 2 g2 52 (pcs 0 0 false) (pcs (pX R1) (pY R1) (pI R1)) (wS 0 52 (pcs (pX R1) (pY R1) (pI R1)) rfl) ?_
  refine sI ?_
  refine Sy.ret ?_
  rw [show (amtV false v x2 y2 i2 (tagP true (l32 f) x y i) : Value) = pv (pX R1) (pY R1) (pI R1) from by unfold amtV tagP; rw [if_neg (by decide), if_pos rfl, ← ptv_parts, hR1]]
  exact rC (v := pv (pX R1) (pY R1) (pI R1)) 52 g2 2 (pcs (pX R1) (pY R1) (pI R1)) rfl Tryz.underlying52
theorem amtR_ft (w : World) (f : Nat → UInt8) (x y : Nat) (i : Bool) (hx : x < K4) (hy : y < K4) (v : Nat) (hv : v < 18446744073709551616) (x2 y2 : Nat) (i2 : Bool) (hx2 : x2 < K4) (hy2 : y2 < K4) (htr : Sh.TabAt w 0) : Calls Tryz.prog 34 #[tgv true (l32 f) x y i, amv false v x2 y2 i2] w (Gets w (amtV false v x2 y2 i2 (tagP true (l32 f) x y i))) := by
  refine Sy.enter (args := [tgv true (l32 f) x y i, amv false v x2 y2 i2]) Tryz.func34 rfl kL ?_
  refine sC ?_
  refine sM 57 (tgcs true (l32 f) x y i) (fun g0 => ?_)
  refine sM 59 (amcs false v x2 y2 i2) (fun g1 => ?_)
  refine sM 52 (pcs 0 0 false) (fun g2 => ?_)
  refine sG ?_
  refine Sy.seq ?_
  refine sC ?_
  refine sP (.pointer (some ⟨g1, 0, none⟩)) <| sS (.bool false) (qC 1 g1 0 59 4 (amcs false v x2 y2 i2) rfl Tryz.underlying4) ?_
  refine sG ?_
  refine sU ?_
  refine Sy.skip ?_
  refine sR (fun j => j == 6) ?_
  refine sZ 0 rfl (.pointer (some ⟨g1, 1, none⟩)) <| sD 1 rfl (.int .u64 ((v : Nat) : Int)) (qC 1 g1 1 59 22 (amcs false v x2 y2 i2) rfl Tryz.underlying22) <| sD 2 rfl (fv v) (Quiet.pure (fun w => by rw [fv_small v hv]; kernel_rfl)) <| sD 3 rfl (tgv true (l32 f) x y i) (qL 0 g0 0 42 57 57 (tgcs true (l32 f) x y i) rfl Tryz.underlying57) <| sD 4 rfl (pv x y i) (qG 32 #[tgv true (l32 f) x y i] (fun w hw => tagR_t w f x y i lP lP (htr.below hw.below htr.lt))) ?_
  obtain ⟨R1, hR1⟩ : ∃ P : Pt, P = Ec.nm finv (v % Sc.pM) (dec x y i) := ⟨_, rfl⟩
  have oR1 : Ec.On R1 := by rw [hR1]; exact (dec_on _ _ _).nm fld _
  refine sD 5 rfl (pv (pX R1) (pY R1) (pI R1)) (qF 42 #[fv v, pv x y i] (mulR_of lP lP lP rfl hR1.symm)) <| sX 6 rfl 2 g2 52 (pcs 0 0 false) (pcs (pX R1) (pY R1) (pI R1)) (wS 0 52 (pcs (pX R1) (pY R1) (pI R1)) rfl) ?_
  refine sI ?_
  refine Sy.ret ?_
  rw [show (amtV false v x2 y2 i2 (tagP true (l32 f) x y i) : Value) = pv (pX R1) (pY R1) (pI R1) from by unfold amtV tagP; rw [if_neg (by decide), if_pos rfl, ← ptv_parts, hR1]]
  exact rC (v := pv (pX R1) (pY R1) (pI R1)) 52 g2 2 (pcs (pX R1) (pY R1) (pI R1)) rfl Tryz.underlying52
theorem amt_ff (w : World) (f : Nat → UInt8) (x y : Nat) (i : Bool) (hx : x < K4) (hy : y < K4) (v : Nat) (hv : v < 18446744073709551616) (x2 y2 : Nat) (i2 : Bool) (hx2 : x2 < K4) (hy2 : y2 < K4) (ht : Sh.TabAt w 1) : Calls Tryz.prog 33 #[tgv false (l32 f) x y i, amv false v x2 y2 i2] w (Gets w (amtV false v x2 y2 i2 (tagP false (l32 f) x y i))) := by
  refine Sy.enter (args := [tgv false (l32 f) x y i, amv false v x2 y2 i2]) Tryz.func33 rfl kL ?_
  refine sC ?_
  refine sM 57 (tgcs false (l32 f) x y i) (fun g0 => ?_)
  refine sM 59 (amcs false v x2 y2 i2) (fun g1 => ?_)
  refine sM 52 (pcs 0 0 false) (fun g2 => ?_)
  refine sG ?_
  refine Sy.seq ?_
  refine sC ?_
  refine sP (.pointer (some ⟨g1, 0, none⟩)) <| sS (.bool false) (qC 1 g1 0 59 4 (amcs false v x2 y2 i2) rfl Tryz.underlying4) ?_
  refine sG ?_
  refine sU ?_
  refine Sy.skip ?_
  refine sR (fun j => j == 6) ?_
  refine sZ 0 rfl (.pointer (some ⟨g1, 1, none⟩)) <| sD 1 rfl (.int .u64 ((v : Nat) : Int)) (qC 1 g1 1 59 22 (amcs false v x2 y2 i2) rfl Tryz.underlying22) <| sD 2 rfl (fv v) (qF 66 #[.int .u64 ((v : Nat) : Int)] (fun w => Sc.of_any w v hv)) <| sD 3 rfl (tgv false (l32 f) x y i) (qL 0 g0 0 42 57 57 (tgcs false (l32 f) x y i) rfl Tryz.underlying57) ?_
  obtain ⟨R1, hR1⟩ : ∃ P : Pt, P = genP (l32 f) := ⟨_, rfl⟩
  have oR1 : Ec.On R1 := by rw [hR1]; exact genP_on _
  refine sD 4 rfl (pv (pX R1) (pY R1) (pI R1)) (qG 31 #[tgv false (l32 f) x y i] (fun w hw => by have q := tag_f w f x y i lP lP (ht.below hw.below ht.lt); rw [← hR1, ptv_parts] at q; exact q)) ?_
  obtain ⟨R2, hR2⟩ : ∃ P : Pt, P = Ec.nm finv (v % Sc.pM) R1 := ⟨_, rfl⟩
  have oR2 : Ec.On R2 := by rw [hR2]; exact oR1.nm fld _
  refine sD 5 rfl (pv (pX R2) (pY R2) (pI R2)) (qF 70 #[fv v, pv (pX R1) (pY R1) (pI R1)] (mul_of7 lP lP lP (dec_parts oR1) hR2.symm)) <| sX 6 rfl 2 g2 52 (pcs 0 0 false) (pcs (pX R2) (pY R2) (pI R2)) (wS 0 52 (pcs (pX R2) (pY R2) (pI R2)) rfl) ?_
  refine sI ?_
  refine Sy.ret ?_
  rw [show (amtV false v x2 y2 i2 (tagP false (l32 f) x y i) : Value) = pv (pX R2) (pY R2) (pI R2) from by unfold amtV tagP; rw [if_neg (by decide), if_neg (by decide), ← ptv_parts, hR2, hR1]]
  exact rC (v := pv (pX R2) (pY R2) (pI R2)) 52 g2 2 (pcs (pX R2) (pY R2) (pI R2)) rfl Tryz.underlying52
theorem amtR_ff (w : World) (f : Nat → UInt8) (x y : Nat) (i : Bool) (hx : x < K4) (hy : y < K4) (v : Nat) (hv : v < 18446744073709551616) (x2 y2 : Nat) (i2 : Bool) (hx2 : x2 < K4) (hy2 : y2 < K4) (htr : Sh.TabAt w 0) : Calls Tryz.prog 34 #[tgv false (l32 f) x y i, amv false v x2 y2 i2] w (Gets w (amtV false v x2 y2 i2 (tagP false (l32 f) x y i))) := by
  refine Sy.enter (args := [tgv false (l32 f) x y i, amv false v x2 y2 i2]) Tryz.func34 rfl kL ?_
  refine sC ?_
  refine sM 57 (tgcs false (l32 f) x y i) (fun g0 => ?_)
  refine sM 59 (amcs false v x2 y2 i2) (fun g1 => ?_)
  refine sM 52 (pcs 0 0 false) (fun g2 => ?_)
  refine sG ?_
  refine Sy.seq ?_
  refine sC ?_
  refine sP (.pointer (some ⟨g1, 0, none⟩)) <| sS (.bool false) (qC 1 g1 0 59 4 (amcs false v x2 y2 i2) rfl Tryz.underlying4) ?_
  refine sG ?_
  refine sU ?_
  refine Sy.skip ?_
  refine sR (fun j => j == 6) ?_
  refine sZ 0 rfl (.pointer (some ⟨g1, 1, none⟩)) <| sD 1 rfl (.int .u64 ((v : Nat) : Int)) (qC 1 g1 1 59 22 (amcs false v x2 y2 i2) rfl Tryz.underlying22) <| sD 2 rfl (fv v) (Quiet.pure (fun w => by rw [fv_small v hv]; kernel_rfl)) <| sD 3 rfl (tgv false (l32 f) x y i) (qL 0 g0 0 42 57 57 (tgcs false (l32 f) x y i) rfl Tryz.underlying57) ?_
  obtain ⟨R1, hR1⟩ : ∃ P : Pt, P = genP (l32 f) := ⟨_, rfl⟩
  have oR1 : Ec.On R1 := by rw [hR1]; exact genP_on _
  refine sD 4 rfl (pv (pX R1) (pY R1) (pI R1)) (qG 32 #[tgv false (l32 f) x y i] (fun w hw => by have q := tagR_f w f x y i lP lP (htr.below hw.below htr.lt); rw [← hR1, ptv_parts] at q; exact q)) ?_
  obtain ⟨R2, hR2⟩ : ∃ P : Pt, P = Ec.nm finv (v % Sc.pM) R1 := ⟨_, rfl⟩
  have oR2 : Ec.On R2 := by rw [hR2]; exact oR1.nm fld _
  refine sD 5 rfl (pv (pX R2) (pY R2) (pI R2)) (qF 42 #[fv v, pv (pX R1) (pY R1) (pI R1)] (mulR_of lP lP lP (dec_parts oR1) hR2.symm)) <| sX 6 rfl 2 g2 52 (pcs 0 0 false) (pcs (pX R2) (pY R2) (pI R2)) (wS 0 52 (pcs (pX R2) (pY R2) (pI R2)) rfl) ?_
  refine sI ?_
  refine Sy.ret ?_
  rw [show (amtV false v x2 y2 i2 (tagP false (l32 f) x y i) : Value) = pv (pX R2) (pY R2) (pI R2) from by unfold amtV tagP; rw [if_neg (by decide), if_neg (by decide), ← ptv_parts, hR2, hR1]]
  exact rC (v := pv (pX R2) (pY R2) (pI R2)) 52 g2 2 (pcs (pX R2) (pY R2) (pI R2)) rfl Tryz.underlying52
theorem amt_any (w : World) (b : Bool) (f : Nat → UInt8) (x y : Nat) (i : Bool) (hx : x < K4) (hy : y < K4) (c : Bool) (v : Nat) (hv : v < 18446744073709551616) (x2 y2 : Nat) (i2 : Bool) (hx2 : x2 < K4) (hy2 : y2 < K4) (ht : Sh.TabAt w 1) : Calls Tryz.prog 33 #[tgv b (l32 f) x y i, amv c v x2 y2 i2] w (Gets w (amtV c v x2 y2 i2 (tagP b (l32 f) x y i))) := by
  cases c <;> cases b
  · exact amt_ff w f x y i hx hy v hv x2 y2 i2 hx2 hy2 ht
  · exact amt_ft w f x y i hx hy v hv x2 y2 i2 hx2 hy2 ht
  · exact amt_tf w f x y i hx hy v hv x2 y2 i2 hx2 hy2 ht
  · exact amt_tt w f x y i hx hy v hv x2 y2 i2 hx2 hy2 ht
theorem amtR_any (w : World) (b : Bool) (f : Nat → UInt8) (x y : Nat) (i : Bool) (hx : x < K4) (hy : y < K4) (c : Bool) (v : Nat) (hv : v < 18446744073709551616) (x2 y2 : Nat) (i2 : Bool) (hx2 : x2 < K4) (hy2 : y2 < K4) (htr : Sh.TabAt w 0) : Calls Tryz.prog 34 #[tgv b (l32 f) x y i, amv c v x2 y2 i2] w (Gets w (amtV c v x2 y2 i2 (tagP b (l32 f) x y i))) := by
  cases c <;> cases b
  · exact amtR_ff w f x y i hx hy v hv x2 y2 i2 hx2 hy2 htr
  · exact amtR_ft w f x y i hx hy v hv x2 y2 i2 hx2 hy2 htr
  · exact amtR_tf w f x y i hx hy v hv x2 y2 i2 hx2 hy2 htr
  · exact amtR_tt w f x y i hx hy v hv x2 y2 i2 hx2 hy2 htr
end Go.Proofs.YtbofhoonlmikcaaGreatDoor.Cu

end
section
namespace Go.Proofs.YtbofhoonlmikcaaGreatDoor.Cu
open Go.RowKit Go.Proofs.YtbofhoonlmikcaaGreatDoor Go.Proofs.YtbofhoonlmikcaaGreatDoor.Sy
set_option maxRecDepth 100000
set_option maxHeartbeats 4000000

theorem ctags_tt (w : World) (f : Nat → UInt8) (x y : Nat) (i : Bool) (hx : x < K4) (hy : y < K4) (v : Nat) (hv : v < 18446744073709551616) (x2 y2 : Nat) (i2 : Bool) (hx2 : x2 < K4) (hy2 : y2 < K4) (ht : Sh.TabAt w 1) (htr : Sh.TabAt w 0) : Calls Tryz.prog 8 #[tgv true (l32 f) x y i, amv true v x2 y2 i2] w (Gets w (.bool true)) := by
  refine Sy.enter (args := [tgv true (l32 f) x y i, amv true v x2 y2 i2]) Tryz.func8 rfl kL ?_
  refine sC ?_
  refine sM 57 (tgcs true (l32 f) x y i) (fun g0 => ?_)
  refine sM 59 (amcs true v x2 y2 i2) (fun g1 => ?_)
  refine sP (.bool false) ?_
  refine sH (fun j => false) ?_
  refine sD 0 rfl (.bool true) (qF 22 #[] (alive7)) <| sZ 1 rfl (.bool true) <| sD 2 rfl (tgv true (l32 f) x y i) (qL 0 g0 0 42 57 57 (tgcs true (l32 f) x y i) rfl Tryz.underlying57) ?_
  obtain ⟨b1, hb1⟩ : ∃ z : Bool, z = rtagB true (l32 f) x y i := ⟨_, rfl⟩
  refine sD 3 rfl (.bool b1) (qF 27 #[tgv true (l32 f) x y i] (fun w => by rw [hb1]; exact rtag_any w true f x y i lP lP)) <| sD 4 rfl (tgv true (l32 f) x y i) (qL 0 g0 0 42 57 57 (tgcs true (l32 f) x y i) rfl Tryz.underlying57) <| sD 5 rfl (.bool b1) (qF 28 #[tgv true (l32 f) x y i] (fun w => by rw [hb1]; exact rtagR_any w true f x y i lP lP)) <| sD 6 rfl (.bool true) (Quiet.pure (fun w => eql_bool_same w _ _ _ _ b1 rfl rfl rfl)) <| sZ 7 rfl (.bool true) <| sZ 8 rfl (.bool true) <| sD 9 rfl (amv true v x2 y2 i2) (qL 1 g1 0 11 59 59 (amcs true v x2 y2 i2) rfl Tryz.underlying59) ?_
  obtain ⟨b2, hb2⟩ : ∃ z : Bool, z = ramtB true v x2 y2 i2 := ⟨_, rfl⟩
  refine sD 10 rfl (.bool b2) (qF 29 #[amv true v x2 y2 i2] (fun w => by rw [hb2]; exact ramt_any w true v (by first | assumption | decide) x2 y2 i2 lP lP)) <| sD 11 rfl (amv true v x2 y2 i2) (qL 1 g1 0 11 59 59 (amcs true v x2 y2 i2) rfl Tryz.underlying59) <| sD 12 rfl (.bool b2) (qF 30 #[amv true v x2 y2 i2] (fun w => by rw [hb2]; exact ramtR_any w true v (by first | assumption | decide) x2 y2 i2 lP lP)) <| sD 13 rfl (.bool true) (Quiet.pure (fun w => eql_bool_same w _ _ _ _ b2 rfl rfl rfl)) <| sZ 14 rfl (.bool true) <| sZ 15 rfl (.bool true) <| sD 16 rfl (tgv true (l32 f) x y i) (qL 0 g0 0 42 57 57 (tgcs true (l32 f) x y i) rfl Tryz.underlying57) <| sD 17 rfl (pv x y i) (qG 31 #[tgv true (l32 f) x y i] (fun w hw => tag_t w f x y i lP lP (ht.below hw.below ht.lt))) ?_
  refine sD 18 rfl (tgv true (l32 f) x y i) (qL 0 g0 0 42 57 57 (tgcs true (l32 f) x y i) rfl Tryz.underlying57) <| sD 19 rfl (pv x y i) (qG 32 #[tgv true (l32 f) x y i] (fun w hw => tagR_t w f x y i lP lP (htr.below hw.below htr.lt))) <| sD 20 rfl (.bool true) (Quiet.pure (fun w => eql_pt_same w _ _ _ _ _ _ _ rfl rfl rfl lP lP)) <| sZ 21 rfl (.bool true) <| sZ 22 rfl (.bool true) <| sD 23 rfl (tgv true (l32 f) x y i) (qL 0 g0 0 42 57 57 (tgcs true (l32 f) x y i) rfl Tryz.underlying57) <| sD 24 rfl (amv true v x2 y2 i2) (qL 1 g1 0 11 59 59 (amcs true v x2 y2 i2) rfl Tryz.underlying59) <| sD 25 rfl (pv x2 y2 i2) (qG 33 #[tgv true (l32 f) x y i, amv true v x2 y2 i2] (fun w hw => by have q := amt_any w true f x y i lP lP true v (by assumption) x2 y2 i2 lP lP (ht.below hw.below ht.lt); exact q)) ?_
  refine sD 26 rfl (tgv true (l32 f) x y i) (qL 0 g0 0 42 57 57 (tgcs true (l32 f) x y i) rfl Tryz.underlying57) <| sD 27 rfl (amv true v x2 y2 i2) (qL 1 g1 0 11 59 59 (amcs true v x2 y2 i2) rfl Tryz.underlying59) <| sD 28 rfl (pv x2 y2 i2) (qG 34 #[tgv true (l32 f) x y i, amv true v x2 y2 i2] (fun w hw => by have q := amtR_any w true f x y i lP lP true v (by assumption) x2 y2 i2 lP lP (htr.below hw.below htr.lt); exact q)) <| sD 29 rfl (.bool true) (Quiet.pure (fun w => eql_pt_same w _ _ _ _ _ _ _ rfl rfl rfl lP lP)) <| sZ 30 rfl (.bool true) <| sZ 31 rfl (.bool true) ?_
  refine sI ?_
  refine Sy.ret ?_
  exact rV (.bool true) rfl
theorem ctags_tf (w : World) (f : Nat → UInt8) (x y : Nat) (i : Bool) (hx : x < K4) (hy : y < K4) (v : Nat) (hv : v < 18446744073709551616) (x2 y2 : Nat) (i2 : Bool) (hx2 : x2 < K4) (hy2 : y2 < K4) (ht : Sh.TabAt w 1) (htr : Sh.TabAt w 0) : Calls Tryz.prog 8 #[tgv true (l32 f) x y i, amv false v x2 y2 i2] w (Gets w (.bool true)) := by
  refine Sy.enter (args := [tgv true (l32 f) x y i, amv false v x2 y2 i2]) Tryz.func8 rfl kL ?_
  refine sC ?_
  refine sM 57 (tgcs true (l32 f) x y i) (fun g0 => ?_)
  refine sM 59 (amcs false v x2 y2 i2) (fun g1 => ?_)
  refine sP (.bool false) ?_
  refine sH (fun j => false) ?_
  refine sD 0 rfl (.bool true) (qF 22 #[] (alive7)) <| sZ 1 rfl (.bool true) <| sD 2 rfl (tgv true (l32 f) x y i) (qL 0 g0 0 42 57 57 (tgcs true (l32 f) x y i) rfl Tryz.underlying57) ?_
  obtain ⟨b1, hb1⟩ : ∃ z : Bool, z = rtagB true (l32 f) x y i := ⟨_, rfl⟩
  refine sD 3 rfl (.bool b1) (qF 27 #[tgv true (l32 f) x y i] (fun w => by rw [hb1]; exact rtag_any w true f x y i lP lP)) <| sD 4 rfl (tgv true (l32 f) x y i) (qL 0 g0 0 42 57 57 (tgcs true (l32 f) x y i) rfl Tryz.underlying57) <| sD 5 rfl (.bool b1) (qF 28 #[tgv true (l32 f) x y i] (fun w => by rw [hb1]; exact rtagR_any w true f x y i lP lP)) <| sD 6 rfl (.bool true) (Quiet.pure (fun w => eql_bool_same w _ _ _ _ b1 rfl rfl rfl)) <| sZ 7 rfl (.bool true) <| sZ 8 rfl (.bool true) <| sD 9 rfl (amv false v x2 y2 i2) (qL 1 g1 0 11 59 59 (amcs false v x2 y2 i2) rfl Tryz.underlying59) ?_
  obtain ⟨b2, hb2⟩ : ∃ z : Bool, z = ramtB false v x2 y2 i2 := ⟨_, rfl⟩
  refine sD 10 rfl (.bool b2) (qF 29 #[amv false v x2 y2 i2] (fun w => by rw [hb2]; exact ramt_any w false v (by first | assumption | decide) x2 y2 i2 lP lP)) <| sD 11 rfl (amv false v x2 y2 i2) (qL 1 g1 0 11 59 59 (amcs false v x2 y2 i2) rfl Tryz.underlying59) <| sD 12 rfl (.bool b2) (qF 30 #[amv false v x2 y2 i2] (fun w => by rw [hb2]; exact ramtR_any w false v (by first | assumption | decide) x2 y2 i2 lP lP)) <| sD 13 rfl (.bool true) (Quiet.pure (fun w => eql_bool_same w _ _ _ _ b2 rfl rfl rfl)) <| sZ 14 rfl (.bool true) <| sZ 15 rfl (.bool true) <| sD 16 rfl (tgv true (l32 f) x y i) (qL 0 g0 0 42 57 57 (tgcs true (l32 f) x y i) rfl Tryz.underlying57) <| sD 17 rfl (pv x y i) (qG 31 #[tgv true (l32 f) x y i] (fun w hw => tag_t w f x y i lP lP (ht.below hw.below ht.lt))) ?_
  refine sD 18 rfl (tgv true (l32 f) x y i) (qL 0 g0 0 42 57 57 (tgcs true (l32 f) x y i) rfl Tryz.underlying57) <| sD 19 rfl (pv x y i) (qG 32 #[tgv true (l32 f) x y i] (fun w hw => tagR_t w f x y i lP lP (htr.below hw.below htr.lt))) <| sD 20 rfl (.bool true) (Quiet.pure (fun w => eql_pt_same w _ _ _ _ _ _ _ rfl rfl rfl lP lP)) <| sZ 21 rfl (.bool true) <| sZ 22 rfl (.bool true) <| sD 23 rfl (tgv true (l32 f) x y i) (qL 0 g0 0 42 57 57 (tgcs true (l32 f) x y i) rfl Tryz.underlying57) <| sD 24 rfl (amv false v x2 y2 i2) (qL 1 g1 0 11 59 59 (amcs false v x2 y2 i2) rfl Tryz.underlying59) ?_
  obtain ⟨R1, hR1⟩ : ∃ P : Pt, P = Ec.nm finv (v % Sc.pM) (dec x y i) := ⟨_, rfl⟩
  have oR1 : Ec.On R1 := by rw [hR1]; exact (dec_on _ _ _).nm fld _
  refine sD 25 rfl (pv (pX R1) (pY R1) (pI R1)) (qG 33 #[tgv true (l32 f) x y i, amv false v x2 y2 i2] (fun w hw => by have q := amt_any w true f x y i lP lP false v (by assumption) x2 y2 i2 lP lP (ht.below hw.below ht.lt); unfold amtV tagP at q; rw [if_neg (by decide), if_pos rfl, ← hR1, ptv_parts] at q; exact q)) <| sD 26 rfl (tgv true (l32 f) x y i) (qL 0 g0 0 42 57 57 (tgcs true (l32 f) x y i) rfl Tryz.underlying57) <| sD 27 rfl (amv false v x2 y2 i2) (qL 1 g1 0 11 59 59 (amcs false v x2 y2 i2) rfl Tryz.underlying59) <| sD 28 rfl (pv (pX R1) (pY R1) (pI R1)) (qG 34 #[tgv true (l32 f) x y i, amv false v x2 y2 i2] (fun w hw => by have q := amtR_any w true f x y i lP lP false v (by assumption) x2 y2 i2 lP lP (htr.below hw.below htr.lt); unfold amtV tagP at q; rw [if_neg (by decide), if_pos rfl, ← hR1, ptv_parts] at q; exact q)) <| sD 29 rfl (.bool true) (Quiet.pure (fun w => eql_pt_same w _ _ _ _ _ _ _ rfl rfl rfl lP lP)) <| sZ 30 rfl (.bool true) <| sZ 31 rfl (.bool true) ?_
  refine sI ?_
  refine Sy.ret ?_
  exact rV (.bool true) rfl
theorem ctags_ft (w : World) (f : Nat → UInt8) (x y : Nat) (i : Bool) (hx : x < K4) (hy : y < K4) (v : Nat) (hv : v < 18446744073709551616) (x2 y2 : Nat) (i2 : Bool) (hx2 : x2 < K4) (hy2 : y2 < K4) (ht : Sh.TabAt w 1) (htr : Sh.TabAt w 0) : Calls Tryz.prog 8 #[tgv false (l32 f) x y i, amv true v x2 y2 i2] w (Gets w (.bool true)) := by
  refine Sy.enter (args := [tgv false (l32 f) x y i, amv true v x2 y2 i2]) Tryz.func8 rfl kL ?_
  refine sC ?_
  refine sM 57 (tgcs false (l32 f) x y i) (fun g0 => ?_)
  refine sM 59 (amcs true v x2 y2 i2) (fun g1 => ?_)
  refine sP (.bool false) ?_
  refine sH (fun j => false) ?_
  refine sD 0 rfl (.bool true) (qF 22 #[] (alive7)) <| sZ 1 rfl (.bool true) <| sD 2 rfl (tgv false (l32 f) x y i) (qL 0 g0 0 42 57 57 (tgcs false (l32 f) x y i) rfl Tryz.underlying57) ?_
  obtain ⟨b1, hb1⟩ : ∃ z : Bool, z = rtagB false (l32 f) x y i := ⟨_, rfl⟩
  refine sD 3 rfl (.bool b1) (qF 27 #[tgv false (l32 f) x y i] (fun w => by rw [hb1]; exact rtag_any w false f x y i lP lP)) <| sD 4 rfl (tgv false (l32 f) x y i) (qL 0 g0 0 42 57 57 (tgcs false (l32 f) x y i) rfl Tryz.underlying57) <| sD 5 rfl (.bool b1) (qF 28 #[tgv false (l32 f) x y i] (fun w => by rw [hb1]; exact rtagR_any w false f x y i lP lP)) <| sD 6 rfl (.bool true) (Quiet.pure (fun w => eql_bool_same w _ _ _ _ b1 rfl rfl rfl)) <| sZ 7 rfl (.bool true) <| sZ 8 rfl (.bool true) <| sD 9 rfl (amv true v x2 y2 i2) (qL 1 g1 0 11 59 59 (amcs true v x2 y2 i2) rfl Tryz.underlying59) ?_
  obtain ⟨b2, hb2⟩ : ∃ z : Bool, z = ramtB true v x2 y2 i2 := ⟨_, rfl⟩
  refine sD 10 rfl (.bool b2) (qF 29 #[amv true v x2 y2 i2] (fun w => by rw [hb2]; exact ramt_any w true v (by first | assumption | decide) x2 y2 i2 lP lP)) <| sD 11 rfl (amv true v x2 y2 i2) (qL 1 g1 0 11 59 59 (amcs true v x2 y2 i2) rfl Tryz.underlying59) <| sD 12 rfl (.bool b2) (qF 30 #[amv true v x2 y2 i2] (fun w => by rw [hb2]; exact ramtR_any w true v (by first | assumption | decide) x2 y2 i2 lP lP)) <| sD 13 rfl (.bool true) (Quiet.pure (fun w => eql_bool_same w _ _ _ _ b2 rfl rfl rfl)) <| sZ 14 rfl (.bool true) <| sZ 15 rfl (.bool true) <| sD 16 rfl (tgv false (l32 f) x y i) (qL 0 g0 0 42 57 57 (tgcs false (l32 f) x y i) rfl Tryz.underlying57) ?_
  obtain ⟨R1, hR1⟩ : ∃ P : Pt, P = genP (l32 f) := ⟨_, rfl⟩
  have oR1 : Ec.On R1 := by rw [hR1]; exact genP_on _
  refine sD 17 rfl (pv (pX R1) (pY R1) (pI R1)) (qG 31 #[tgv false (l32 f) x y i] (fun w hw => by have q := tag_f w f x y i lP lP (ht.below hw.below ht.lt); rw [← hR1, ptv_parts] at q; exact q)) <| sD 18 rfl (tgv false (l32 f) x y i) (qL 0 g0 0 42 57 57 (tgcs false (l32 f) x y i) rfl Tryz.underlying57) <| sD 19 rfl (pv (pX R1) (pY R1) (pI R1)) (qG 32 #[tgv false (l32 f) x y i] (fun w hw => by have q := tagR_f w f x y i lP lP (htr.below hw.below htr.lt); rw [← hR1, ptv_parts] at q; exact q)) <| sD 20 rfl (.bool true) (Quiet.pure (fun w => eql_pt_same w _ _ _ _ _ _ _ rfl rfl rfl lP lP)) <| sZ 21 rfl (.bool true) <| sZ 22 rfl (.bool true) <| sD 23 rfl (tgv false (l32 f) x y i) (qL 0 g0 0 42 57 57 (tgcs false (l32 f) x y i) rfl Tryz.underlying57) <| sD 24 rfl (amv true v x2 y2 i2) (qL 1 g1 0 11 59 59 (amcs true v x2 y2 i2) rfl Tryz.underlying59) ?_
  refine sD 25 rfl (pv x2 y2 i2) (qG 33 #[tgv false (l32 f) x y i, amv true v x2 y2 i2] (fun w hw => by have q := amt_any w false f x y i lP lP true v (by assumption) x2 y2 i2 lP lP (ht.below hw.below ht.lt); exact q)) <| sD 26 rfl (tgv false (l32 f) x y i) (qL 0 g0 0 42 57 57 (tgcs false (l32 f) x y i) rfl Tryz.underlying57) <| sD 27 rfl (amv true v x2 y2 i2) (qL 1 g1 0 11 59 59 (amcs true v x2 y2 i2) rfl Tryz.underlying59) <| sD 28 rfl (pv x2 y2 i2) (qG 34 #[tgv false (l32 f) x y i, amv true v x2 y2 i2] (fun w hw => by have q := amtR_any w false f x y i lP lP true v (by assumption) x2 y2 i2 lP lP (htr.below hw.below htr.lt); exact q)) <| sD 29 rfl (.bool true) (Quiet.pure (fun w => eql_pt_same w _ _ _ _ _ _ _ rfl rfl rfl lP lP)) <| sZ 30 rfl (.bool true) <| sZ 31 rfl (.bool true) ?_
  refine sI ?_
  refine Sy.ret ?_
  exact rV (.bool true) rfl
theorem ctags_ff (w : World) (f : Nat → UInt8) (x y : Nat) (i : Bool) (hx : x < K4) (hy : y < K4) (v : Nat) (hv : v < 18446744073709551616) (x2 y2 : Nat) (i2 : Bool) (hx2 : x2 < K4) (hy2 : y2 < K4) (ht : Sh.TabAt w 1) (htr : Sh.TabAt w 0) : Calls Tryz.prog 8 #[tgv false (l32 f) x y i, amv false v x2 y2 i2] w (Gets w (.bool true)) := by
  refine Sy.enter (args := [tgv false (l32 f) x y i, amv false v x2 y2 i2]) Tryz.func8 rfl kL ?_
  refine sC ?_
  refine sM 57 (tgcs false (l32 f) x y i) (fun g0 => ?_)
  refine sM 59 (amcs false v x2 y2 i2) (fun g1 => ?_)
  refine sP (.bool false) ?_
  refine sH (fun j => false) ?_
  refine sD 0 rfl (.bool true) (qF 22 #[] (alive7)) <| sZ 1 rfl (.bool true) <| sD 2 rfl (tgv false (l32 f) x y i) (qL 0 g0 0 42 57 57 (tgcs false (l32 f) x y i) rfl Tryz.underlying57) ?_
  obtain ⟨b1, hb1⟩ : ∃ z : Bool, z = rtagB false (l32 f) x y i := ⟨_, rfl⟩
  refine sD 3 rfl (.bool b1) (qF 27 #[tgv false (l32 f) x y i] (fun w => by rw [hb1]; exact rtag_any w false f x y i lP lP)) <| sD 4 rfl (tgv false (l32 f) x y i) (qL 0 g0 0 42 57 57 (tgcs false (l32 f) x y i) rfl Tryz.underlying57) <| sD 5 rfl (.bool b1) (qF 28 #[tgv false (l32 f) x y i] (fun w => by rw [hb1]; exact rtagR_any w false f x y i lP lP)) <| sD 6 rfl (.bool true) (Quiet.pure (fun w => eql_bool_same w _ _ _ _ b1 rfl rfl rfl)) <| sZ 7 rfl (.bool true) <| sZ 8 rfl (.bool true) <| sD 9 rfl (amv false v x2 y2 i2) (qL 1 g1 0 11 59 59 (amcs false v x2 y2 i2) rfl Tryz.underlying59) ?_
  obtain ⟨b2, hb2⟩ : ∃ z : Bool, z = ramtB false v x2 y2 i2 := ⟨_, rfl⟩
  refine sD 10 rfl (.bool b2) (qF 29 #[amv false v x2 y2 i2] (fun w => by rw [hb2]; exact ramt_any w false v (by first | assumption | decide) x2 y2 i2 lP lP)) <| sD 11 rfl (amv false v x2 y2 i2) (qL 1 g1 0 11 59 59 (amcs false v x2 y2 i2) rfl Tryz.underlying59) <| sD 12 rfl (.bool b2) (qF 30 #[amv false v x2 y2 i2] (fun w => by rw [hb2]; exact ramtR_any w false v (by first | assumption | decide) x2 y2 i2 lP lP)) <| sD 13 rfl (.bool true) (Quiet.pure (fun w => eql_bool_same w _ _ _ _ b2 rfl rfl rfl)) <| sZ 14 rfl (.bool true) <| sZ 15 rfl (.bool true) <| sD 16 rfl (tgv false (l32 f) x y i) (qL 0 g0 0 42 57 57 (tgcs false (l32 f) x y i) rfl Tryz.underlying57) ?_
  obtain ⟨R1, hR1⟩ : ∃ P : Pt, P = genP (l32 f) := ⟨_, rfl⟩
  have oR1 : Ec.On R1 := by rw [hR1]; exact genP_on _
  refine sD 17 rfl (pv (pX R1) (pY R1) (pI R1)) (qG 31 #[tgv false (l32 f) x y i] (fun w hw => by have q := tag_f w f x y i lP lP (ht.below hw.below ht.lt); rw [← hR1, ptv_parts] at q; exact q)) <| sD 18 rfl (tgv false (l32 f) x y i) (qL 0 g0 0 42 57 57 (tgcs false (l32 f) x y i) rfl Tryz.underlying57) <| sD 19 rfl (pv (pX R1) (pY R1) (pI R1)) (qG 32 #[tgv false (l32 f) x y i] (fun w hw => by have q := tagR_f w f x y i lP lP (htr.below hw.below htr.lt); rw [← hR1, ptv_parts] at q; exact q)) <| sD 20 rfl (.bool true) (Quiet.pure (fun w => eql_pt_same w _ _ _ _ _ _ _ rfl rfl rfl lP lP)) <| sZ 21 rfl (.bool true) <| sZ 22 rfl (.bool true) <| sD 23 rfl (tgv false (l32 f) x y i) (qL 0 g0 0 42 57 57 (tgcs false (l32 f) x y i) rfl Tryz.underlying57) <| sD 24 rfl (amv false v x2 y2 i2) (qL 1 g1 0 11 59 59 (amcs false v x2 y2 i2) rfl Tryz.underlying59) ?_
  obtain ⟨R2, hR2⟩ : ∃ P : Pt, P = Ec.nm finv (v % Sc.pM) R1 := ⟨_, rfl⟩
  have oR2 : Ec.On R2 := by rw [hR2]; exact oR1.nm fld _
  refine sD 25 rfl (pv (pX R2) (pY R2) (pI R2)) (qG 33 #[tgv false (l32 f) x y i, amv false v x2 y2 i2] (fun w hw => by have q := amt_any w false f x y i lP lP false v (by assumption) x2 y2 i2 lP lP (ht.below hw.below ht.lt); unfold amtV tagP at q; rw [if_neg (by decide), if_neg (by decide), ← hR1, ← hR2, ptv_parts] at q; exact q)) <| sD 26 rfl (tgv false (l32 f) x y i) (qL 0 g0 0 42 57 57 (tgcs false (l32 f) x y i) rfl Tryz.underlying57) <| sD 27 rfl (amv false v x2 y2 i2) (qL 1 g1 0 11 59 59 (amcs false v x2 y2 i2) rfl Tryz.underlying59) <| sD 28 rfl (pv (pX R2) (pY R2) (pI R2)) (qG 34 #[tgv false (l32 f) x y i, amv false v x2 y2 i2] (fun w hw => by have q := amtR_any w false f x y i lP lP false v (by assumption) x2 y2 i2 lP lP (htr.below hw.below htr.lt); unfold amtV tagP at q; rw [if_neg (by decide), if_neg (by decide), ← hR1, ← hR2, ptv_parts] at q; exact q)) <| sD 29 rfl (.bool true) (Quiet.pure (fun w => eql_pt_same w _ _ _ _ _ _ _ rfl rfl rfl lP lP)) <| sZ 30 rfl (.bool true) <| sZ 31 rfl (.bool true) ?_
  refine sI ?_
  refine Sy.ret ?_
  exact rV (.bool true) rfl
theorem law_ctags (w : World) (b c : Bool) (f : Nat → UInt8) (x y : Nat) (i : Bool) (hx : x < K4) (hy : y < K4) (v : Nat) (hv : v < 18446744073709551616) (x2 y2 : Nat) (i2 : Bool) (hx2 : x2 < K4) (hy2 : y2 < K4) (ht : Sh.TabAt w 1) (htr : Sh.TabAt w 0) : Calls Tryz.prog 8 #[tgv b (l32 f) x y i, amv c v x2 y2 i2] w (Gets w (.bool true)) := by
  cases b <;> cases c
  · exact ctags_ff w f x y i hx hy v hv x2 y2 i2 hx2 hy2 ht htr
  · exact ctags_ft w f x y i hx hy v hv x2 y2 i2 hx2 hy2 ht htr
  · exact ctags_tf w f x y i hx hy v hv x2 y2 i2 hx2 hy2 ht htr
  · exact ctags_tt w f x y i hx hy v hv x2 y2 i2 hx2 hy2 ht htr
end Go.Proofs.YtbofhoonlmikcaaGreatDoor.Cu

end
section
namespace Go.Proofs.YtbofhoonlmikcaaGreatDoor.Cu
open Go.RowKit Go.Proofs.YtbofhoonlmikcaaGreatDoor Go.Proofs.YtbofhoonlmikcaaGreatDoor.Sy
set_option maxRecDepth 100000
set_option maxHeartbeats 4000000

def sameP (x y : Nat) (i : Bool) (P : Pt) : Bool := sameB x y i (pX P) (pY P) (pI P)
def otB (b : Bool) (id : List UInt8) (x y : Nat) (i : Bool) (id2 : List UInt8) (k : Nat) : Bool := if b = true then sameP x y i (assP id2 k) else decide (id = id2) && decide (k % Sc.pM = 0)
def oaB (c : Bool) (v x y : Nat) (i : Bool) (id2 : List UInt8) (u k l : Nat) : Bool := if c = true then sameP x y i (valP u (assP id2 k) l) else decide (v = u) && decide (l % Sc.pM = 0)
def opensB (b : Bool) (id : List UInt8) (x y : Nat) (i : Bool) (c : Bool) (v x2 y2 : Nat) (i2 : Bool) (id2 : List UInt8) (u k l : Nat) : Bool := rtagB b id x y i && ramtB c v x2 y2 i2 && otB b id x y i id2 k && oaB c v x2 y2 i2 id2 u k l
theorem none_any (w : World) (k : Nat) (hk : k < K4) : Calls Tryz.prog 122 #[fv k] w (Gets w (.bool (decide (k % Sc.pM = 0)))) := by
  refine Sy.enter (args := [fv k]) Tryz.func122 rfl kL ?_
  refine sC ?_
  refine sM 24 (fcs k) (fun g0 => ?_)
  refine sP (.bool false) ?_
  refine sA ?_
  refine sS (fv k) (qL 0 g0 0 4 24 24 (fcs k) rfl Tryz.underlying24) <| sS (fv (k % Sc.pM)) (qF 132 #[fv k] (fun w => Sc.norm_any w k lP)) <| sP (fv 0) ?_
  obtain ⟨b1, hb1⟩ : ∃ z : Bool, z = decide ((k % Sc.pM) = 0) := ⟨_, rfl⟩
  cases b1
  · refine sS (.bool false) (Quiet.pure (fun w => (eql_sc w _ _ _ _ _ _ rfl rfl rfl lP lP).trans (by rw [← hb1]))) <| sP (.bool false) ?_
    refine sG ?_
    refine Sy.ret ?_
    rw [show (.bool (decide (k % Sc.pM = 0)) : Value) = .bool false from by rw [← hb1]]
    exact rV (.bool false) rfl
  · refine sS (.bool true) (Quiet.pure (fun w => (eql_sc w _ _ _ _ _ _ rfl rfl rfl lP lP).trans (by rw [← hb1]))) <| sP (.bool true) ?_
    refine sG ?_
    refine Sy.ret ?_
    rw [show (.bool (decide (k % Sc.pM = 0)) : Value) = .bool true from by rw [← hb1]]
    exact rV (.bool true) rfl
theorem otag_t (w : World) (f : Nat → UInt8) (x y : Nat) (i : Bool) (hx : x < K4) (hy : y < K4) (g : Nat → UInt8) (u k l : Nat) (hu : u < 18446744073709551616) (hk : k < K4) (hl : l < K4) (ht : Sh.TabAt w 1) : Calls Tryz.prog 71 #[tgv true (l32 f) x y i, opv (l32 g) u k l] w (Gets w (.bool (otB true (l32 f) x y i (l32 g) k))) := by
  refine Sy.enter (args := [tgv true (l32 f) x y i, opv (l32 g) u k l]) Tryz.func71 rfl kL ?_
  refine sC ?_
  refine sM 57 (tgcs true (l32 f) x y i) (fun g0 => ?_)
  refine sM 49 (opcs (l32 g) u k l) (fun g1 => ?_)
  refine sP (.bool false) ?_
  refine sG ?_
  refine Sy.seq ?_
  refine sC ?_
  refine sP (.pointer (some ⟨g0, 0, none⟩)) <| sS (.bool true) (qC 0 g0 0 57 4 (tgcs true (l32 f) x y i) rfl Tryz.underlying4) ?_
  refine sG ?_
  refine sT ?_
  refine Sy.seq ?_
  refine Sy.regionD (fun j => false) kR ?_
  refine sZ 0 rfl (.pointer (some ⟨g0, 33, none⟩)) <| sD 1 rfl (pv x y i) (qL 0 g0 33 9 57 52 (tgcs true (l32 f) x y i) rfl Tryz.underlying52) <| sZ 2 rfl (.pointer (some ⟨g1, 0, none⟩)) <| sD 3 rfl (.agg ((l32 g).map bv).toArray) (qL 1 g1 0 32 49 47 (opcs (l32 g) u k l) rfl Tryz.underlying47) <| sZ 4 rfl (.pointer (some ⟨g1, 33, none⟩)) <| sD 5 rfl (fv k) (qL 1 g1 33 4 49 24 (opcs (l32 g) u k l) rfl Tryz.underlying24) ?_
  obtain ⟨R1, hR1⟩ : ∃ P : Pt, P = assP (l32 g) k := ⟨_, rfl⟩
  have oR1 : Ec.On R1 := by rw [hR1]; exact assP_on _ _
  refine sD 6 rfl (pv (pX R1) (pY R1) (pI R1)) (qG 23 #[.agg ((l32 g).map bv).toArray, fv k] (fun w hw => ass_of (l32_len g) lP (ht.below hw.below ht.lt) hR1.symm)) ?_
  obtain ⟨b1, hb1⟩ : ∃ z : Bool, z = sameB x y i (pX R1) (pY R1) (pI R1) := ⟨_, rfl⟩
  cases b1
  · refine sD 7 rfl (.bool false) (Quiet.pure (fun w => (eql_pt w _ _ _ _ _ _ _ _ _ _ rfl rfl rfl lP lP lP lP).trans (by rw [← hb1]))) <| sZ 8 rfl (.bool false) ?_
    refine sI ?_
    refine Sy.ret ?_
    refine Sy.then_ret ?_
    rw [show (.bool (otB true (l32 f) x y i (l32 g) k) : Value) = .bool false from by unfold otB; try unfold sameP; (try rw [← hR1]); rw [← hb1] <;> rfl]
    exact rV (.bool false) rfl
  · refine sD 7 rfl (.bool true) (Quiet.pure (fun w => (eql_pt w _ _ _ _ _ _ _ _ _ _ rfl rfl rfl lP lP lP lP).trans (by rw [← hb1]))) <| sZ 8 rfl (.bool true) ?_
    refine sI ?_
    refine Sy.ret ?_
    refine Sy.then_ret ?_
    rw [show (.bool (otB true (l32 f) x y i (l32 g) k) : Value) = .bool true from by unfold otB; try unfold sameP; (try rw [← hR1]); rw [← hb1] <;> rfl]
    exact rV (.bool true) rfl
theorem oamt_t (w : World) (v : Nat) (hv : v < 18446744073709551616) (x2 y2 : Nat) (i2 : Bool) (hx2 : x2 < K4) (hy2 : y2 < K4) (g : Nat → UInt8) (u k l : Nat) (hu : u < 18446744073709551616) (hk : k < K4) (hl : l < K4) (ht : Sh.TabAt w 1) : Calls Tryz.prog 72 #[amv true v x2 y2 i2, opv (l32 g) u k l] w (Gets w (.bool (oaB true v x2 y2 i2 (l32 g) u k l))) := by
  refine Sy.enter (args := [amv true v x2 y2 i2, opv (l32 g) u k l]) Tryz.func72 rfl kL ?_
  refine sC ?_
  refine sM 59 (amcs true v x2 y2 i2) (fun g0 => ?_)
  refine sM 49 (opcs (l32 g) u k l) (fun g1 => ?_)
  refine sP (.bool false) ?_
  refine sG ?_
  refine Sy.seq ?_
  refine sC ?_
  refine sP (.pointer (some ⟨g0, 0, none⟩)) <| sS (.bool true) (qC 0 g0 0 59 4 (amcs true v x2 y2 i2) rfl Tryz.underlying4) ?_
  refine sG ?_
  refine sT ?_
  refine Sy.seq ?_
  refine Sy.regionD (fun j => false) kR ?_
  refine sZ 0 rfl (.pointer (some ⟨g0, 2, none⟩)) <| sD 1 rfl (pv x2 y2 i2) (qL 0 g0 2 9 59 52 (amcs true v x2 y2 i2) rfl Tryz.underlying52) <| sZ 2 rfl (.pointer (some ⟨g1, 32, none⟩)) <| sD 3 rfl (.int .u64 ((u : Nat) : Int)) (qC 1 g1 32 49 22 (opcs (l32 g) u k l) rfl Tryz.underlying22) <| sZ 4 rfl (.pointer (some ⟨g1, 0, none⟩)) <| sD 5 rfl (.agg ((l32 g).map bv).toArray) (qL 1 g1 0 32 49 47 (opcs (l32 g) u k l) rfl Tryz.underlying47) <| sZ 6 rfl (.pointer (some ⟨g1, 33, none⟩)) <| sD 7 rfl (fv k) (qL 1 g1 33 4 49 24 (opcs (l32 g) u k l) rfl Tryz.underlying24) ?_
  obtain ⟨R1, hR1⟩ : ∃ P : Pt, P = assP (l32 g) k := ⟨_, rfl⟩
  have oR1 : Ec.On R1 := by rw [hR1]; exact assP_on _ _
  refine sD 8 rfl (pv (pX R1) (pY R1) (pI R1)) (qG 23 #[.agg ((l32 g).map bv).toArray, fv k] (fun w hw => ass_of (l32_len g) lP (ht.below hw.below ht.lt) hR1.symm)) <| sZ 9 rfl (.pointer (some ⟨g1, 37, none⟩)) <| sD 10 rfl (fv l) (qL 1 g1 37 4 49 24 (opcs (l32 g) u k l) rfl Tryz.underlying24) ?_
  obtain ⟨R2, hR2⟩ : ∃ P : Pt, P = valP u R1 l := ⟨_, rfl⟩
  have oR2 : Ec.On R2 := by rw [hR2]; exact valP_on oR1 _ _
  refine sD 11 rfl (pv (pX R2) (pY R2) (pI R2)) (qF 25 #[.int .u64 ((u : Nat) : Int), pv (pX R1) (pY R1) (pI R1), fv l] (val_of (by assumption) lP lP lP (dec_parts oR1) hR2.symm)) ?_
  obtain ⟨b1, hb1⟩ : ∃ z : Bool, z = sameB x2 y2 i2 (pX R2) (pY R2) (pI R2) := ⟨_, rfl⟩
  cases b1
  · refine sD 12 rfl (.bool false) (Quiet.pure (fun w => (eql_pt w _ _ _ _ _ _ _ _ _ _ rfl rfl rfl lP lP lP lP).trans (by rw [← hb1]))) <| sZ 13 rfl (.bool false) ?_
    refine sI ?_
    refine Sy.ret ?_
    refine Sy.then_ret ?_
    rw [show (.bool (oaB true v x2 y2 i2 (l32 g) u k l) : Value) = .bool false from by unfold oaB; try unfold sameP; (try rw [← hR1]); (try rw [← hR2]); rw [← hb1] <;> rfl]
    exact rV (.bool false) rfl
  · refine sD 12 rfl (.bool true) (Quiet.pure (fun w => (eql_pt w _ _ _ _ _ _ _ _ _ _ rfl rfl rfl lP lP lP lP).trans (by rw [← hb1]))) <| sZ 13 rfl (.bool true) ?_
    refine sI ?_
    refine Sy.ret ?_
    refine Sy.then_ret ?_
    rw [show (.bool (oaB true v x2 y2 i2 (l32 g) u k l) : Value) = .bool true from by unfold oaB; try unfold sameP; (try rw [← hR1]); (try rw [← hR2]); rw [← hb1] <;> rfl]
    exact rV (.bool true) rfl
theorem otag_f (w : World) (f : Nat → UInt8) (x y : Nat) (i : Bool) (hx : x < K4) (hy : y < K4) (g : Nat → UInt8) (u k l : Nat) (hu : u < 18446744073709551616) (hk : k < K4) (hl : l < K4) (ht : Sh.TabAt w 1) : Calls Tryz.prog 71 #[tgv false (l32 f) x y i, opv (l32 g) u k l] w (Gets w (.bool (otB false (l32 f) x y i (l32 g) k))) := by
  refine Sy.enter (args := [tgv false (l32 f) x y i, opv (l32 g) u k l]) Tryz.func71 rfl kL ?_
  refine sC ?_
  refine sM 57 (tgcs false (l32 f) x y i) (fun g0 => ?_)
  refine sM 49 (opcs (l32 g) u k l) (fun g1 => ?_)
  refine sP (.bool false) ?_
  refine sG ?_
  refine Sy.seq ?_
  refine sC ?_
  refine sP (.pointer (some ⟨g0, 0, none⟩)) <| sS (.bool false) (qC 0 g0 0 57 4 (tgcs false (l32 f) x y i) rfl Tryz.underlying4) ?_
  refine sG ?_
  refine sU ?_
  refine Sy.skip ?_
  refine sB ?_
  refine sP (.pointer (some ⟨g0, 1, none⟩)) <| sS (.agg ((l32 f).map bv).toArray) (qL 0 g0 1 32 57 47 (tgcs false (l32 f) x y i) rfl Tryz.underlying47) <| sP (.pointer (some ⟨g1, 0, none⟩)) <| sS (.agg ((l32 g).map bv).toArray) (qL 1 g1 0 32 49 47 (opcs (l32 g) u k l) rfl Tryz.underlying47) ?_
  obtain ⟨b1, hb1⟩ : ∃ z : Bool, z = decide ((l32 f) = (l32 g)) := ⟨_, rfl⟩
  cases b1
  · refine sS (.bool false) (Quiet.pure (fun w => (eql_digest w _ _ _ _ (l32 f) (l32 g) (l32_len f) (l32_len g) rfl rfl rfl).trans (by rw [← hb1]))) <| sP (.bool false) ?_
    refine sN ?_
    refine sN ?_
    refine sN ?_
    refine sP (.bool false) <| sP (.bool false) ?_
    refine sG ?_
    refine Sy.ret ?_
    rw [show (.bool (otB false (l32 f) x y i (l32 g) k) : Value) = .bool false from by unfold otB; try unfold sameP; rw [← hb1] <;> rfl]
    exact rV (.bool false) rfl
  · refine sS (.bool true) (Quiet.pure (fun w => (eql_digest w _ _ _ _ (l32 f) (l32 g) (l32_len f) (l32_len g) rfl rfl rfl).trans (by rw [← hb1]))) <| sP (.bool true) <| sP (.pointer (some ⟨g1, 33, none⟩)) <| sS (fv k) (qL 1 g1 33 4 49 24 (opcs (l32 g) u k l) rfl Tryz.underlying24) ?_
    obtain ⟨b2, hb2⟩ : ∃ z : Bool, z = decide ((k % Sc.pM) = 0) := ⟨_, rfl⟩
    refine sS (.bool b2) (qF 122 #[fv k] (fun w => by rw [hb2]; exact none_any w k lP)) <| sP (.bool b2) <| sP (.bool b2) ?_
    refine sG ?_
    refine Sy.ret ?_
    rw [show (.bool (otB false (l32 f) x y i (l32 g) k) : Value) = .bool b2 from by unfold otB; try unfold sameP; rw [← hb1, ← hb2] <;> rfl]
    exact rV (.bool b2) rfl
theorem oamt_f (w : World) (v : Nat) (hv : v < 18446744073709551616) (x2 y2 : Nat) (i2 : Bool) (hx2 : x2 < K4) (hy2 : y2 < K4) (g : Nat → UInt8) (u k l : Nat) (hu : u < 18446744073709551616) (hk : k < K4) (hl : l < K4) (ht : Sh.TabAt w 1) : Calls Tryz.prog 72 #[amv false v x2 y2 i2, opv (l32 g) u k l] w (Gets w (.bool (oaB false v x2 y2 i2 (l32 g) u k l))) := by
  refine Sy.enter (args := [amv false v x2 y2 i2, opv (l32 g) u k l]) Tryz.func72 rfl kL ?_
  refine sC ?_
  refine sM 59 (amcs false v x2 y2 i2) (fun g0 => ?_)
  refine sM 49 (opcs (l32 g) u k l) (fun g1 => ?_)
  refine sP (.bool false) ?_
  refine sG ?_
  refine Sy.seq ?_
  refine sC ?_
  refine sP (.pointer (some ⟨g0, 0, none⟩)) <| sS (.bool false) (qC 0 g0 0 59 4 (amcs false v x2 y2 i2) rfl Tryz.underlying4) ?_
  refine sG ?_
  refine sU ?_
  refine Sy.skip ?_
  refine sB ?_
  refine sP (.pointer (some ⟨g0, 1, none⟩)) <| sS (.int .u64 ((v : Nat) : Int)) (qC 0 g0 1 59 22 (amcs false v x2 y2 i2) rfl Tryz.underlying22) <| sP (.pointer (some ⟨g1, 32, none⟩)) <| sS (.int .u64 ((u : Nat) : Int)) (qC 1 g1 32 49 22 (opcs (l32 g) u k l) rfl Tryz.underlying22) ?_
  obtain ⟨b1, hb1⟩ : ∃ z : Bool, z = decide (v = u) := ⟨_, rfl⟩
  cases b1
  · refine sS (.bool false) (Quiet.pure (exec_int .eql _ _ _ .u64 _ _ _ rfl rfl rfl (int_eql _ _ _ _ _ ((decide_eq_decide.2 (by omega)).trans hb1.symm)))) <| sP (.bool false) ?_
    refine sN ?_
    refine sN ?_
    refine sN ?_
    refine sP (.bool false) <| sP (.bool false) ?_
    refine sG ?_
    refine Sy.ret ?_
    rw [show (.bool (oaB false v x2 y2 i2 (l32 g) u k l) : Value) = .bool false from by unfold oaB; try unfold sameP; rw [← hb1] <;> rfl]
    exact rV (.bool false) rfl
  · refine sS (.bool true) (Quiet.pure (exec_int .eql _ _ _ .u64 _ _ _ rfl rfl rfl (int_eql _ _ _ _ _ ((decide_eq_decide.2 (by omega)).trans hb1.symm)))) <| sP (.bool true) <| sP (.pointer (some ⟨g1, 37, none⟩)) <| sS (fv l) (qL 1 g1 37 4 49 24 (opcs (l32 g) u k l) rfl Tryz.underlying24) ?_
    obtain ⟨b2, hb2⟩ : ∃ z : Bool, z = decide ((l % Sc.pM) = 0) := ⟨_, rfl⟩
    refine sS (.bool b2) (qF 122 #[fv l] (fun w => by rw [hb2]; exact none_any w l lP)) <| sP (.bool b2) <| sP (.bool b2) ?_
    refine sG ?_
    refine Sy.ret ?_
    rw [show (.bool (oaB false v x2 y2 i2 (l32 g) u k l) : Value) = .bool b2 from by unfold oaB; try unfold sameP; rw [← hb1, ← hb2] <;> rfl]
    exact rV (.bool b2) rfl
theorem otag_any (w : World) (b : Bool) (f : Nat → UInt8) (x y : Nat) (i : Bool) (hx : x < K4) (hy : y < K4) (g : Nat → UInt8) (u k l : Nat) (hu : u < 18446744073709551616) (hk : k < K4) (hl : l < K4) (ht : Sh.TabAt w 1) : Calls Tryz.prog 71 #[tgv b (l32 f) x y i, opv (l32 g) u k l] w (Gets w (.bool (otB b (l32 f) x y i (l32 g) k))) := by
  cases b
  · exact otag_f w f x y i hx hy g u k l hu hk hl ht
  · exact otag_t w f x y i hx hy g u k l hu hk hl ht
theorem oamt_any (w : World) (c : Bool) (v : Nat) (hv : v < 18446744073709551616) (x2 y2 : Nat) (i2 : Bool) (hx2 : x2 < K4) (hy2 : y2 < K4) (g : Nat → UInt8) (u k l : Nat) (hu : u < 18446744073709551616) (hk : k < K4) (hl : l < K4) (ht : Sh.TabAt w 1) : Calls Tryz.prog 72 #[amv c v x2 y2 i2, opv (l32 g) u k l] w (Gets w (.bool (oaB c v x2 y2 i2 (l32 g) u k l))) := by
  cases c
  · exact oamt_f w v hv x2 y2 i2 hx2 hy2 g u k l hu hk hl ht
  · exact oamt_t w v hv x2 y2 i2 hx2 hy2 g u k l hu hk hl ht
theorem opens_any (w : World) (b : Bool) (c : Bool) (f : Nat → UInt8) (x y : Nat) (i : Bool) (hx : x < K4) (hy : y < K4) (v : Nat) (hv : v < 18446744073709551616) (x2 y2 : Nat) (i2 : Bool) (hx2 : x2 < K4) (hy2 : y2 < K4) (g : Nat → UInt8) (u k l : Nat) (hu : u < 18446744073709551616) (hk : k < K4) (hl : l < K4) (ht : Sh.TabAt w 1) : Calls Tryz.prog 35 #[tgv b (l32 f) x y i, amv c v x2 y2 i2, opv (l32 g) u k l] w (Gets w (.bool (opensB b (l32 f) x y i c v x2 y2 i2 (l32 g) u k l))) := by
  refine Sy.enter (args := [tgv b (l32 f) x y i, amv c v x2 y2 i2, opv (l32 g) u k l]) Tryz.func35 rfl kL ?_
  refine sC ?_
  refine sM 57 (tgcs b (l32 f) x y i) (fun g0 => ?_)
  refine sM 59 (amcs c v x2 y2 i2) (fun g1 => ?_)
  refine sM 49 (opcs (l32 g) u k l) (fun g2 => ?_)
  refine sP (.bool false) ?_
  refine sA ?_
  refine sS (tgv b (l32 f) x y i) (qL 0 g0 0 42 57 57 (tgcs b (l32 f) x y i) rfl Tryz.underlying57) ?_
  obtain ⟨b1, hb1⟩ : ∃ z : Bool, z = rtagB b (l32 f) x y i := ⟨_, rfl⟩
  refine sS (.bool b1) (qF 27 #[tgv b (l32 f) x y i] (fun w => by rw [hb1]; exact rtag_any w b f x y i lP lP)) <| sP (.bool b1) ?_
  cases b1
  · refine sN ?_
    refine sN ?_
    refine sP (.bool false) <| sP (.bool false) ?_
    refine sN ?_
    refine sN ?_
    refine sN ?_
    refine sP (.bool false) <| sP (.bool false) ?_
    refine sN ?_
    refine sN ?_
    refine sN ?_
    refine sP (.bool false) <| sP (.bool false) ?_
    refine sG ?_
    refine Sy.ret ?_
    rw [show (.bool (opensB b (l32 f) x y i c v x2 y2 i2 (l32 g) u k l) : Value) = .bool false from by unfold opensB; rw [← hb1] <;> rfl]
    exact rV (.bool false) rfl
  · refine sS (amv c v x2 y2 i2) (qL 1 g1 0 11 59 59 (amcs c v x2 y2 i2) rfl Tryz.underlying59) ?_
    obtain ⟨b2, hb2⟩ : ∃ z : Bool, z = ramtB c v x2 y2 i2 := ⟨_, rfl⟩
    refine sS (.bool b2) (qF 29 #[amv c v x2 y2 i2] (fun w => by rw [hb2]; exact ramt_any w c v (by assumption) x2 y2 i2 lP lP)) <| sP (.bool b2) <| sP (.bool b2) ?_
    cases b2
    · refine sN ?_
      refine sN ?_
      refine sN ?_
      refine sP (.bool false) <| sP (.bool false) ?_
      refine sN ?_
      refine sN ?_
      refine sN ?_
      refine sP (.bool false) <| sP (.bool false) ?_
      refine sG ?_
      refine Sy.ret ?_
      rw [show (.bool (opensB b (l32 f) x y i c v x2 y2 i2 (l32 g) u k l) : Value) = .bool false from by unfold opensB; rw [← hb1, ← hb2] <;> rfl]
      exact rV (.bool false) rfl
    · refine sS (tgv b (l32 f) x y i) (qL 0 g0 0 42 57 57 (tgcs b (l32 f) x y i) rfl Tryz.underlying57) <| sS (opv (l32 g) u k l) (qL 2 g2 0 41 49 49 (opcs (l32 g) u k l) rfl Tryz.underlying49) ?_
      obtain ⟨b3, hb3⟩ : ∃ z : Bool, z = otB b (l32 f) x y i (l32 g) k := ⟨_, rfl⟩
      refine sS (.bool b3) (qG 71 #[tgv b (l32 f) x y i, opv (l32 g) u k l] (fun w hw => by rw [hb3]; exact otag_any w b f x y i lP lP g u k l (by assumption) lP lP (ht.below hw.below ht.lt))) <| sP (.bool b3) <| sP (.bool b3) ?_
      cases b3
      · refine sN ?_
        refine sN ?_
        refine sN ?_
        refine sP (.bool false) <| sP (.bool false) ?_
        refine sG ?_
        refine Sy.ret ?_
        rw [show (.bool (opensB b (l32 f) x y i c v x2 y2 i2 (l32 g) u k l) : Value) = .bool false from by unfold opensB; rw [← hb1, ← hb2, ← hb3] <;> rfl]
        exact rV (.bool false) rfl
      · refine sS (amv c v x2 y2 i2) (qL 1 g1 0 11 59 59 (amcs c v x2 y2 i2) rfl Tryz.underlying59) <| sS (opv (l32 g) u k l) (qL 2 g2 0 41 49 49 (opcs (l32 g) u k l) rfl Tryz.underlying49) ?_
        obtain ⟨b4, hb4⟩ : ∃ z : Bool, z = oaB c v x2 y2 i2 (l32 g) u k l := ⟨_, rfl⟩
        refine sS (.bool b4) (qG 72 #[amv c v x2 y2 i2, opv (l32 g) u k l] (fun w hw => by rw [hb4]; exact oamt_any w c v (by assumption) x2 y2 i2 lP lP g u k l (by assumption) lP lP (ht.below hw.below ht.lt))) <| sP (.bool b4) <| sP (.bool b4) ?_
        refine sG ?_
        refine Sy.ret ?_
        rw [show (.bool (opensB b (l32 f) x y i c v x2 y2 i2 (l32 g) u k l) : Value) = .bool b4 from by unfold opensB; rw [← hb1, ← hb2, ← hb3, ← hb4] <;> rfl]
        exact rV (.bool b4) rfl
theorem opensR_tt (w : World) (f : Nat → UInt8) (x y : Nat) (i : Bool) (hx : x < K4) (hy : y < K4) (v : Nat) (hv : v < 18446744073709551616) (x2 y2 : Nat) (i2 : Bool) (hx2 : x2 < K4) (hy2 : y2 < K4) (g : Nat → UInt8) (u k l : Nat) (hu : u < 18446744073709551616) (hk : k < K4) (hl : l < K4) (htr : Sh.TabAt w 0) : Calls Tryz.prog 36 #[tgv true (l32 f) x y i, amv true v x2 y2 i2, opv (l32 g) u k l] w (Gets w (.bool (opensB true (l32 f) x y i true v x2 y2 i2 (l32 g) u k l))) := by
  refine Sy.enter (args := [tgv true (l32 f) x y i, amv true v x2 y2 i2, opv (l32 g) u k l]) Tryz.func36 rfl kL ?_
  refine sC ?_
  refine sM 57 (tgcs true (l32 f) x y i) (fun g0 => ?_)
  refine sM 59 (amcs true v x2 y2 i2) (fun g1 => ?_)
  refine sM 49 (opcs (l32 g) u k l) (fun g2 => ?_)
  refine sP (.bool false) ?_
  refine sA ?_
  refine sS (tgv true (l32 f) x y i) (qL 0 g0 0 42 57 57 (tgcs true (l32 f) x y i) rfl Tryz.underlying57) ?_
  obtain ⟨b1, hb1⟩ : ∃ z : Bool, z = rtagB true (l32 f) x y i := ⟨_, rfl⟩
  refine sS (.bool b1) (qF 28 #[tgv true (l32 f) x y i] (fun w => by rw [hb1]; exact rtagR_any w true f x y i lP lP)) <| sP (.bool b1) ?_
  refine sA ?_
  refine sS (amv true v x2 y2 i2) (qL 1 g1 0 11 59 59 (amcs true v x2 y2 i2) rfl Tryz.underlying59) ?_
  obtain ⟨b2, hb2⟩ : ∃ z : Bool, z = ramtB true v x2 y2 i2 := ⟨_, rfl⟩
  refine sS (.bool b2) (qF 30 #[amv true v x2 y2 i2] (fun w => by rw [hb2]; exact ramtR_any w true v (by assumption) x2 y2 i2 lP lP)) <| sP (.bool b2) ?_
  refine sG ?_
  refine Sy.seq ?_
  refine sC ?_
  refine sP (.bool b1) ?_
  cases b1
  · refine sP (.bool true) <| sP (.bool true) ?_
    refine sN ?_
    refine sN ?_
    refine sP (.bool true) ?_
    refine sG ?_
    refine sT ?_
    refine sC ?_
    refine sP (.bool false) ?_
    refine sG ?_
    refine Sy.ret ?_
    refine Sy.then_ret ?_
    rw [show (.bool (opensB true (l32 f) x y i true v x2 y2 i2 (l32 g) u k l) : Value) = .bool false from by unfold opensB otB oaB; try unfold sameP; rw [← hb1, ← hb2] <;> rfl]
    exact rV (.bool false) rfl
  · refine sP (.bool false) <| sP (.bool false) <| sP (.bool b2) ?_
    cases b2
    · refine sP (.bool true) <| sP (.bool true) ?_
      refine sG ?_
      refine sT ?_
      refine sC ?_
      refine sP (.bool false) ?_
      refine sG ?_
      refine Sy.ret ?_
      refine Sy.then_ret ?_
      rw [show (.bool (opensB true (l32 f) x y i true v x2 y2 i2 (l32 g) u k l) : Value) = .bool false from by unfold opensB otB oaB; try unfold sameP; rw [← hb1, ← hb2] <;> rfl]
      exact rV (.bool false) rfl
    · refine sP (.bool false) <| sP (.bool false) ?_
      refine sG ?_
      refine sU ?_
      refine Sy.skip ?_
      refine sB ?_
      refine sP (.pointer (some ⟨g2, 0, none⟩)) <| sS (.agg ((l32 g).map bv).toArray) (qL 2 g2 0 32 49 47 (opcs (l32 g) u k l) rfl Tryz.underlying47) <| sP (.pointer (some ⟨g2, 33, none⟩)) <| sS (fv k) (qL 2 g2 33 4 49 24 (opcs (l32 g) u k l) rfl Tryz.underlying24) ?_
      obtain ⟨R1, hR1⟩ : ∃ P : Pt, P = assP (l32 g) k := ⟨_, rfl⟩
      have oR1 : Ec.On R1 := by rw [hR1]; exact assP_on _ _
      refine sS (pv (pX R1) (pY R1) (pI R1)) (qG 24 #[.agg ((l32 g).map bv).toArray, fv k] (fun w hw => assR_of (l32_len g) lP (htr.below hw.below htr.lt) hR1.symm)) ?_
      refine sM 52 (pcs 0 0 false) (fun g3 => ?_)
      refine sW 3 g3 52 (pcs 0 0 false) (pcs (pX R1) (pY R1) (pI R1)) (wS 0 52 (pcs (pX R1) (pY R1) (pI R1)) rfl) ?_
      refine sG ?_
      refine Sy.seq ?_
      refine sC ?_
      refine sP (.pointer (some ⟨g0, 0, none⟩)) <| sS (.bool true) (qC 0 g0 0 57 4 (tgcs true (l32 f) x y i) rfl Tryz.underlying4) <| sP (.bool true) <| sP (.pointer (some ⟨g0, 33, none⟩)) <| sS (pv x y i) (qL 0 g0 33 9 57 52 (tgcs true (l32 f) x y i) rfl Tryz.underlying52) <| sS (pv (pX R1) (pY R1) (pI R1)) (qL 3 g3 0 9 52 52 (pcs (pX R1) (pY R1) (pI R1)) rfl Tryz.underlying52) ?_
      obtain ⟨b3, hb3⟩ : ∃ z : Bool, z = sameB x y i (pX R1) (pY R1) (pI R1) := ⟨_, rfl⟩
      cases b3
      · refine sS (.bool true) (Quiet.pure (fun w => (neq_pt w _ _ _ _ _ _ _ _ _ _ rfl rfl rfl lP lP lP lP).trans (by rw [← hb3]; rfl))) <| sP (.bool true) ?_
        refine sG ?_
        refine sT ?_
        refine sC ?_
        refine sP (.bool false) ?_
        refine sG ?_
        refine Sy.ret ?_
        refine Sy.then_ret ?_
        rw [show (.bool (opensB true (l32 f) x y i true v x2 y2 i2 (l32 g) u k l) : Value) = .bool false from by unfold opensB otB oaB; try unfold sameP; (try rw [← hR1]); rw [← hb1, ← hb2, ← hb3] <;> rfl]
        exact rV (.bool false) rfl
      · refine sS (.bool false) (Quiet.pure (fun w => (neq_pt w _ _ _ _ _ _ _ _ _ _ rfl rfl rfl lP lP lP lP).trans (by rw [← hb3]; rfl))) <| sP (.bool false) ?_
        refine sG ?_
        refine sU ?_
        refine Sy.skip ?_
        refine Sy.then_ ?_
        refine Sy.seq ?_
        refine sC ?_
        refine sP (.pointer (some ⟨g0, 0, none⟩)) <| sS (.bool true) (qC 0 g0 0 57 4 (tgcs true (l32 f) x y i) rfl Tryz.underlying4) <| sP (.bool false) <| sP (.bool false) ?_
        refine sN ?_
        refine sN ?_
        refine sN ?_
        refine sN ?_
        refine sN ?_
        refine sN ?_
        refine sN ?_
        refine sN ?_
        refine sN ?_
        refine sN ?_
        refine sN ?_
        refine sN ?_
        refine sP (.bool false) ?_
        refine sG ?_
        refine sU ?_
        refine Sy.skip ?_
        refine Sy.then_ ?_
        refine Sy.seq ?_
        refine sC ?_
        refine sP (.pointer (some ⟨g1, 0, none⟩)) <| sS (.bool true) (qC 1 g1 0 59 4 (amcs true v x2 y2 i2) rfl Tryz.underlying4) ?_
        refine sG ?_
        refine sT ?_
        refine Sy.seq ?_
        refine Sy.regionD (fun j => false) kR ?_
        refine sZ 0 rfl (.pointer (some ⟨g1, 2, none⟩)) <| sD 1 rfl (pv x2 y2 i2) (qL 1 g1 2 9 59 52 (amcs true v x2 y2 i2) rfl Tryz.underlying52) <| sZ 2 rfl (.pointer (some ⟨g2, 32, none⟩)) <| sD 3 rfl (.int .u64 ((u : Nat) : Int)) (qC 2 g2 32 49 22 (opcs (l32 g) u k l) rfl Tryz.underlying22) <| sD 4 rfl (pv (pX R1) (pY R1) (pI R1)) (qL 3 g3 0 9 52 52 (pcs (pX R1) (pY R1) (pI R1)) rfl Tryz.underlying52) <| sZ 5 rfl (.pointer (some ⟨g2, 37, none⟩)) <| sD 6 rfl (fv l) (qL 2 g2 37 4 49 24 (opcs (l32 g) u k l) rfl Tryz.underlying24) ?_
        obtain ⟨R2, hR2⟩ : ∃ P : Pt, P = valP u R1 l := ⟨_, rfl⟩
        have oR2 : Ec.On R2 := by rw [hR2]; exact valP_on oR1 _ _
        refine sD 7 rfl (pv (pX R2) (pY R2) (pI R2)) (qF 26 #[.int .u64 ((u : Nat) : Int), pv (pX R1) (pY R1) (pI R1), fv l] (valR_of (by assumption) lP lP lP (dec_parts oR1) hR2.symm)) ?_
        obtain ⟨b4, hb4⟩ : ∃ z : Bool, z = sameB x2 y2 i2 (pX R2) (pY R2) (pI R2) := ⟨_, rfl⟩
        cases b4
        · refine sD 8 rfl (.bool false) (Quiet.pure (fun w => (eql_pt w _ _ _ _ _ _ _ _ _ _ rfl rfl rfl lP lP lP lP).trans (by rw [← hb4]))) <| sZ 9 rfl (.bool false) ?_
          refine sI ?_
          refine Sy.ret ?_
          refine Sy.then_ret ?_
          rw [show (.bool (opensB true (l32 f) x y i true v x2 y2 i2 (l32 g) u k l) : Value) = .bool false from by unfold opensB otB oaB; try unfold sameP; (try rw [← hR1]); (try rw [← hR2]); rw [← hb1, ← hb2, ← hb3, ← hb4] <;> rfl]
          exact rV (.bool false) rfl
        · refine sD 8 rfl (.bool true) (Quiet.pure (fun w => (eql_pt w _ _ _ _ _ _ _ _ _ _ rfl rfl rfl lP lP lP lP).trans (by rw [← hb4]))) <| sZ 9 rfl (.bool true) ?_
          refine sI ?_
          refine Sy.ret ?_
          refine Sy.then_ret ?_
          rw [show (.bool (opensB true (l32 f) x y i true v x2 y2 i2 (l32 g) u k l) : Value) = .bool true from by unfold opensB otB oaB; try unfold sameP; (try rw [← hR1]); (try rw [← hR2]); rw [← hb1, ← hb2, ← hb3, ← hb4] <;> rfl]
          exact rV (.bool true) rfl
theorem opensR_tf (w : World) (f : Nat → UInt8) (x y : Nat) (i : Bool) (hx : x < K4) (hy : y < K4) (v : Nat) (hv : v < 18446744073709551616) (x2 y2 : Nat) (i2 : Bool) (hx2 : x2 < K4) (hy2 : y2 < K4) (g : Nat → UInt8) (u k l : Nat) (hu : u < 18446744073709551616) (hk : k < K4) (hl : l < K4) (htr : Sh.TabAt w 0) : Calls Tryz.prog 36 #[tgv true (l32 f) x y i, amv false v x2 y2 i2, opv (l32 g) u k l] w (Gets w (.bool (opensB true (l32 f) x y i false v x2 y2 i2 (l32 g) u k l))) := by
  refine Sy.enter (args := [tgv true (l32 f) x y i, amv false v x2 y2 i2, opv (l32 g) u k l]) Tryz.func36 rfl kL ?_
  refine sC ?_
  refine sM 57 (tgcs true (l32 f) x y i) (fun g0 => ?_)
  refine sM 59 (amcs false v x2 y2 i2) (fun g1 => ?_)
  refine sM 49 (opcs (l32 g) u k l) (fun g2 => ?_)
  refine sP (.bool false) ?_
  refine sA ?_
  refine sS (tgv true (l32 f) x y i) (qL 0 g0 0 42 57 57 (tgcs true (l32 f) x y i) rfl Tryz.underlying57) ?_
  obtain ⟨b1, hb1⟩ : ∃ z : Bool, z = rtagB true (l32 f) x y i := ⟨_, rfl⟩
  refine sS (.bool b1) (qF 28 #[tgv true (l32 f) x y i] (fun w => by rw [hb1]; exact rtagR_any w true f x y i lP lP)) <| sP (.bool b1) ?_
  refine sA ?_
  refine sS (amv false v x2 y2 i2) (qL 1 g1 0 11 59 59 (amcs false v x2 y2 i2) rfl Tryz.underlying59) ?_
  obtain ⟨b2, hb2⟩ : ∃ z : Bool, z = ramtB false v x2 y2 i2 := ⟨_, rfl⟩
  refine sS (.bool b2) (qF 30 #[amv false v x2 y2 i2] (fun w => by rw [hb2]; exact ramtR_any w false v (by assumption) x2 y2 i2 lP lP)) <| sP (.bool b2) ?_
  refine sG ?_
  refine Sy.seq ?_
  refine sC ?_
  refine sP (.bool b1) ?_
  cases b1
  · refine sP (.bool true) <| sP (.bool true) ?_
    refine sN ?_
    refine sN ?_
    refine sP (.bool true) ?_
    refine sG ?_
    refine sT ?_
    refine sC ?_
    refine sP (.bool false) ?_
    refine sG ?_
    refine Sy.ret ?_
    refine Sy.then_ret ?_
    rw [show (.bool (opensB true (l32 f) x y i false v x2 y2 i2 (l32 g) u k l) : Value) = .bool false from by unfold opensB otB oaB; try unfold sameP; rw [← hb1, ← hb2] <;> rfl]
    exact rV (.bool false) rfl
  · refine sP (.bool false) <| sP (.bool false) <| sP (.bool b2) ?_
    cases b2
    · refine sP (.bool true) <| sP (.bool true) ?_
      refine sG ?_
      refine sT ?_
      refine sC ?_
      refine sP (.bool false) ?_
      refine sG ?_
      refine Sy.ret ?_
      refine Sy.then_ret ?_
      rw [show (.bool (opensB true (l32 f) x y i false v x2 y2 i2 (l32 g) u k l) : Value) = .bool false from by unfold opensB otB oaB; try unfold sameP; rw [← hb1, ← hb2] <;> rfl]
      exact rV (.bool false) rfl
    · refine sP (.bool false) <| sP (.bool false) ?_
      refine sG ?_
      refine sU ?_
      refine Sy.skip ?_
      refine sB ?_
      refine sP (.pointer (some ⟨g2, 0, none⟩)) <| sS (.agg ((l32 g).map bv).toArray) (qL 2 g2 0 32 49 47 (opcs (l32 g) u k l) rfl Tryz.underlying47) <| sP (.pointer (some ⟨g2, 33, none⟩)) <| sS (fv k) (qL 2 g2 33 4 49 24 (opcs (l32 g) u k l) rfl Tryz.underlying24) ?_
      obtain ⟨R1, hR1⟩ : ∃ P : Pt, P = assP (l32 g) k := ⟨_, rfl⟩
      have oR1 : Ec.On R1 := by rw [hR1]; exact assP_on _ _
      refine sS (pv (pX R1) (pY R1) (pI R1)) (qG 24 #[.agg ((l32 g).map bv).toArray, fv k] (fun w hw => assR_of (l32_len g) lP (htr.below hw.below htr.lt) hR1.symm)) ?_
      refine sM 52 (pcs 0 0 false) (fun g3 => ?_)
      refine sW 3 g3 52 (pcs 0 0 false) (pcs (pX R1) (pY R1) (pI R1)) (wS 0 52 (pcs (pX R1) (pY R1) (pI R1)) rfl) ?_
      refine sG ?_
      refine Sy.seq ?_
      refine sC ?_
      refine sP (.pointer (some ⟨g0, 0, none⟩)) <| sS (.bool true) (qC 0 g0 0 57 4 (tgcs true (l32 f) x y i) rfl Tryz.underlying4) <| sP (.bool true) <| sP (.pointer (some ⟨g0, 33, none⟩)) <| sS (pv x y i) (qL 0 g0 33 9 57 52 (tgcs true (l32 f) x y i) rfl Tryz.underlying52) <| sS (pv (pX R1) (pY R1) (pI R1)) (qL 3 g3 0 9 52 52 (pcs (pX R1) (pY R1) (pI R1)) rfl Tryz.underlying52) ?_
      obtain ⟨b3, hb3⟩ : ∃ z : Bool, z = sameB x y i (pX R1) (pY R1) (pI R1) := ⟨_, rfl⟩
      cases b3
      · refine sS (.bool true) (Quiet.pure (fun w => (neq_pt w _ _ _ _ _ _ _ _ _ _ rfl rfl rfl lP lP lP lP).trans (by rw [← hb3]; rfl))) <| sP (.bool true) ?_
        refine sG ?_
        refine sT ?_
        refine sC ?_
        refine sP (.bool false) ?_
        refine sG ?_
        refine Sy.ret ?_
        refine Sy.then_ret ?_
        rw [show (.bool (opensB true (l32 f) x y i false v x2 y2 i2 (l32 g) u k l) : Value) = .bool false from by unfold opensB otB oaB; try unfold sameP; (try rw [← hR1]); rw [← hb1, ← hb2, ← hb3] <;> rfl]
        exact rV (.bool false) rfl
      · refine sS (.bool false) (Quiet.pure (fun w => (neq_pt w _ _ _ _ _ _ _ _ _ _ rfl rfl rfl lP lP lP lP).trans (by rw [← hb3]; rfl))) <| sP (.bool false) ?_
        refine sG ?_
        refine sU ?_
        refine Sy.skip ?_
        refine Sy.then_ ?_
        refine Sy.seq ?_
        refine sC ?_
        refine sP (.pointer (some ⟨g0, 0, none⟩)) <| sS (.bool true) (qC 0 g0 0 57 4 (tgcs true (l32 f) x y i) rfl Tryz.underlying4) <| sP (.bool false) <| sP (.bool false) ?_
        refine sN ?_
        refine sN ?_
        refine sN ?_
        refine sN ?_
        refine sN ?_
        refine sN ?_
        refine sN ?_
        refine sN ?_
        refine sN ?_
        refine sN ?_
        refine sN ?_
        refine sN ?_
        refine sP (.bool false) ?_
        refine sG ?_
        refine sU ?_
        refine Sy.skip ?_
        refine Sy.then_ ?_
        refine Sy.seq ?_
        refine sC ?_
        refine sP (.pointer (some ⟨g1, 0, none⟩)) <| sS (.bool false) (qC 1 g1 0 59 4 (amcs false v x2 y2 i2) rfl Tryz.underlying4) ?_
        refine sG ?_
        refine sU ?_
        refine Sy.skip ?_
        refine sB ?_
        refine sP (.pointer (some ⟨g1, 1, none⟩)) <| sS (.int .u64 ((v : Nat) : Int)) (qC 1 g1 1 59 22 (amcs false v x2 y2 i2) rfl Tryz.underlying22) <| sP (.pointer (some ⟨g2, 32, none⟩)) <| sS (.int .u64 ((u : Nat) : Int)) (qC 2 g2 32 49 22 (opcs (l32 g) u k l) rfl Tryz.underlying22) ?_
        obtain ⟨b4, hb4⟩ : ∃ z : Bool, z = decide (v = u) := ⟨_, rfl⟩
        cases b4
        · refine sS (.bool false) (Quiet.pure (exec_int .eql _ _ _ .u64 _ _ _ rfl rfl rfl (int_eql _ _ _ _ _ ((decide_eq_decide.2 (by omega)).trans hb4.symm)))) <| sP (.bool false) ?_
          refine sN ?_
          refine sN ?_
          refine sN ?_
          refine sN ?_
          refine sN ?_
          refine sP (.bool false) <| sP (.bool false) ?_
          refine sG ?_
          refine Sy.ret ?_
          rw [show (.bool (opensB true (l32 f) x y i false v x2 y2 i2 (l32 g) u k l) : Value) = .bool false from by unfold opensB otB oaB; try unfold sameP; (try rw [← hR1]); rw [← hb1, ← hb2, ← hb3, ← hb4] <;> rfl]
          exact rV (.bool false) rfl
        · refine sS (.bool true) (Quiet.pure (exec_int .eql _ _ _ .u64 _ _ _ rfl rfl rfl (int_eql _ _ _ _ _ ((decide_eq_decide.2 (by omega)).trans hb4.symm)))) <| sP (.bool true) <| sP (.pointer (some ⟨g2, 37, none⟩)) <| sS (fv l) (qL 2 g2 37 4 49 24 (opcs (l32 g) u k l) rfl Tryz.underlying24) <| sS (fv (l % Sc.pM)) (qF 73 #[fv l] (fun w => nsc_any w l lP)) <| sP (fv 0) ?_
          obtain ⟨b5, hb5⟩ : ∃ z : Bool, z = decide ((l % Sc.pM) = 0) := ⟨_, rfl⟩
          cases b5
          · refine sS (.bool false) (Quiet.pure (fun w => (eql_sc w _ _ _ _ _ _ rfl rfl rfl lP lP).trans (by rw [← hb5]))) <| sP (.bool false) <| sP (.bool false) ?_
            refine sG ?_
            refine Sy.ret ?_
            rw [show (.bool (opensB true (l32 f) x y i false v x2 y2 i2 (l32 g) u k l) : Value) = .bool false from by unfold opensB otB oaB; try unfold sameP; (try rw [← hR1]); rw [← hb1, ← hb2, ← hb3, ← hb4, ← hb5] <;> rfl]
            exact rV (.bool false) rfl
          · refine sS (.bool true) (Quiet.pure (fun w => (eql_sc w _ _ _ _ _ _ rfl rfl rfl lP lP).trans (by rw [← hb5]))) <| sP (.bool true) <| sP (.bool true) ?_
            refine sG ?_
            refine Sy.ret ?_
            rw [show (.bool (opensB true (l32 f) x y i false v x2 y2 i2 (l32 g) u k l) : Value) = .bool true from by unfold opensB otB oaB; try unfold sameP; (try rw [← hR1]); rw [← hb1, ← hb2, ← hb3, ← hb4, ← hb5] <;> rfl]
            exact rV (.bool true) rfl
theorem opensR_ft (w : World) (f : Nat → UInt8) (x y : Nat) (i : Bool) (hx : x < K4) (hy : y < K4) (v : Nat) (hv : v < 18446744073709551616) (x2 y2 : Nat) (i2 : Bool) (hx2 : x2 < K4) (hy2 : y2 < K4) (g : Nat → UInt8) (u k l : Nat) (hu : u < 18446744073709551616) (hk : k < K4) (hl : l < K4) (htr : Sh.TabAt w 0) : Calls Tryz.prog 36 #[tgv false (l32 f) x y i, amv true v x2 y2 i2, opv (l32 g) u k l] w (Gets w (.bool (opensB false (l32 f) x y i true v x2 y2 i2 (l32 g) u k l))) := by
  refine Sy.enter (args := [tgv false (l32 f) x y i, amv true v x2 y2 i2, opv (l32 g) u k l]) Tryz.func36 rfl kL ?_
  refine sC ?_
  refine sM 57 (tgcs false (l32 f) x y i) (fun g0 => ?_)
  refine sM 59 (amcs true v x2 y2 i2) (fun g1 => ?_)
  refine sM 49 (opcs (l32 g) u k l) (fun g2 => ?_)
  refine sP (.bool false) ?_
  refine sA ?_
  refine sS (tgv false (l32 f) x y i) (qL 0 g0 0 42 57 57 (tgcs false (l32 f) x y i) rfl Tryz.underlying57) ?_
  obtain ⟨b1, hb1⟩ : ∃ z : Bool, z = rtagB false (l32 f) x y i := ⟨_, rfl⟩
  refine sS (.bool b1) (qF 28 #[tgv false (l32 f) x y i] (fun w => by rw [hb1]; exact rtagR_any w false f x y i lP lP)) <| sP (.bool b1) ?_
  refine sA ?_
  refine sS (amv true v x2 y2 i2) (qL 1 g1 0 11 59 59 (amcs true v x2 y2 i2) rfl Tryz.underlying59) ?_
  obtain ⟨b2, hb2⟩ : ∃ z : Bool, z = ramtB true v x2 y2 i2 := ⟨_, rfl⟩
  refine sS (.bool b2) (qF 30 #[amv true v x2 y2 i2] (fun w => by rw [hb2]; exact ramtR_any w true v (by assumption) x2 y2 i2 lP lP)) <| sP (.bool b2) ?_
  refine sG ?_
  refine Sy.seq ?_
  refine sC ?_
  refine sP (.bool b1) ?_
  cases b1
  · refine sP (.bool true) <| sP (.bool true) ?_
    refine sN ?_
    refine sN ?_
    refine sP (.bool true) ?_
    refine sG ?_
    refine sT ?_
    refine sC ?_
    refine sP (.bool false) ?_
    refine sG ?_
    refine Sy.ret ?_
    refine Sy.then_ret ?_
    rw [show (.bool (opensB false (l32 f) x y i true v x2 y2 i2 (l32 g) u k l) : Value) = .bool false from by unfold opensB otB oaB; try unfold sameP; rw [← hb1, ← hb2] <;> rfl]
    exact rV (.bool false) rfl
  · refine sP (.bool false) <| sP (.bool false) <| sP (.bool b2) ?_
    cases b2
    · refine sP (.bool true) <| sP (.bool true) ?_
      refine sG ?_
      refine sT ?_
      refine sC ?_
      refine sP (.bool false) ?_
      refine sG ?_
      refine Sy.ret ?_
      refine Sy.then_ret ?_
      rw [show (.bool (opensB false (l32 f) x y i true v x2 y2 i2 (l32 g) u k l) : Value) = .bool false from by unfold opensB otB oaB; try unfold sameP; rw [← hb1, ← hb2] <;> rfl]
      exact rV (.bool false) rfl
    · refine sP (.bool false) <| sP (.bool false) ?_
      refine sG ?_
      refine sU ?_
      refine Sy.skip ?_
      refine sB ?_
      refine sP (.pointer (some ⟨g2, 0, none⟩)) <| sS (.agg ((l32 g).map bv).toArray) (qL 2 g2 0 32 49 47 (opcs (l32 g) u k l) rfl Tryz.underlying47) <| sP (.pointer (some ⟨g2, 33, none⟩)) <| sS (fv k) (qL 2 g2 33 4 49 24 (opcs (l32 g) u k l) rfl Tryz.underlying24) ?_
      obtain ⟨R1, hR1⟩ : ∃ P : Pt, P = assP (l32 g) k := ⟨_, rfl⟩
      have oR1 : Ec.On R1 := by rw [hR1]; exact assP_on _ _
      refine sS (pv (pX R1) (pY R1) (pI R1)) (qG 24 #[.agg ((l32 g).map bv).toArray, fv k] (fun w hw => assR_of (l32_len g) lP (htr.below hw.below htr.lt) hR1.symm)) ?_
      refine sM 52 (pcs 0 0 false) (fun g3 => ?_)
      refine sW 3 g3 52 (pcs 0 0 false) (pcs (pX R1) (pY R1) (pI R1)) (wS 0 52 (pcs (pX R1) (pY R1) (pI R1)) rfl) ?_
      refine sG ?_
      refine Sy.seq ?_
      refine sC ?_
      refine sP (.pointer (some ⟨g0, 0, none⟩)) <| sS (.bool false) (qC 0 g0 0 57 4 (tgcs false (l32 f) x y i) rfl Tryz.underlying4) <| sP (.bool false) ?_
      refine sN ?_
      refine sN ?_
      refine sN ?_
      refine sN ?_
      refine sP (.bool false) ?_
      refine sG ?_
      refine sU ?_
      refine Sy.skip ?_
      refine Sy.then_ ?_
      refine Sy.seq ?_
      refine sC ?_
      refine sP (.pointer (some ⟨g0, 0, none⟩)) <| sS (.bool false) (qC 0 g0 0 57 4 (tgcs false (l32 f) x y i) rfl Tryz.underlying4) <| sP (.bool true) <| sP (.bool true) <| sP (.pointer (some ⟨g0, 1, none⟩)) <| sS (.agg ((l32 f).map bv).toArray) (qL 0 g0 1 32 57 47 (tgcs false (l32 f) x y i) rfl Tryz.underlying47) <| sP (.pointer (some ⟨g2, 0, none⟩)) <| sS (.agg ((l32 g).map bv).toArray) (qL 2 g2 0 32 49 47 (opcs (l32 g) u k l) rfl Tryz.underlying47) ?_
      obtain ⟨b3, hb3⟩ : ∃ z : Bool, z = decide ((l32 f) = (l32 g)) := ⟨_, rfl⟩
      cases b3
      · refine sS (.bool true) (Quiet.pure (fun w => (nne_digest w _ _ _ _ (l32 f) (l32 g) (l32_len f) (l32_len g) rfl rfl rfl).trans (by rw [← hb3]; rfl))) <| sP (.bool true) ?_
        refine sN ?_
        refine sN ?_
        refine sN ?_
        refine sN ?_
        refine sN ?_
        refine sP (.bool true) <| sP (.bool true) ?_
        refine sG ?_
        refine sT ?_
        refine sC ?_
        refine sP (.bool false) ?_
        refine sG ?_
        refine Sy.ret ?_
        refine Sy.then_ret ?_
        rw [show (.bool (opensB false (l32 f) x y i true v x2 y2 i2 (l32 g) u k l) : Value) = .bool false from by unfold opensB otB oaB; try unfold sameP; (try rw [← hR1]); rw [← hb1, ← hb2, ← hb3] <;> rfl]
        exact rV (.bool false) rfl
      · refine sS (.bool false) (Quiet.pure (fun w => (nne_digest w _ _ _ _ (l32 f) (l32 g) (l32_len f) (l32_len g) rfl rfl rfl).trans (by rw [← hb3]; rfl))) <| sP (.bool false) <| sP (.pointer (some ⟨g2, 33, none⟩)) <| sS (fv k) (qL 2 g2 33 4 49 24 (opcs (l32 g) u k l) rfl Tryz.underlying24) <| sS (fv (k % Sc.pM)) (qF 73 #[fv k] (fun w => nsc_any w k lP)) <| sP (fv 0) ?_
        obtain ⟨b4, hb4⟩ : ∃ z : Bool, z = decide ((k % Sc.pM) = 0) := ⟨_, rfl⟩
        cases b4
        · refine sS (.bool true) (Quiet.pure (fun w => (neq_sc w _ _ _ _ _ _ rfl rfl rfl lP lP).trans (by rw [← hb4]; rfl))) <| sP (.bool true) <| sP (.bool true) ?_
          refine sG ?_
          refine sT ?_
          refine sC ?_
          refine sP (.bool false) ?_
          refine sG ?_
          refine Sy.ret ?_
          refine Sy.then_ret ?_
          rw [show (.bool (opensB false (l32 f) x y i true v x2 y2 i2 (l32 g) u k l) : Value) = .bool false from by unfold opensB otB oaB; try unfold sameP; (try rw [← hR1]); rw [← hb1, ← hb2, ← hb3, ← hb4] <;> rfl]
          exact rV (.bool false) rfl
        · refine sS (.bool false) (Quiet.pure (fun w => (neq_sc w _ _ _ _ _ _ rfl rfl rfl lP lP).trans (by rw [← hb4]; rfl))) <| sP (.bool false) <| sP (.bool false) ?_
          refine sG ?_
          refine sU ?_
          refine Sy.skip ?_
          refine Sy.then_ ?_
          refine Sy.seq ?_
          refine sC ?_
          refine sP (.pointer (some ⟨g1, 0, none⟩)) <| sS (.bool true) (qC 1 g1 0 59 4 (amcs true v x2 y2 i2) rfl Tryz.underlying4) ?_
          refine sG ?_
          refine sT ?_
          refine Sy.seq ?_
          refine Sy.regionD (fun j => false) kR ?_
          refine sZ 0 rfl (.pointer (some ⟨g1, 2, none⟩)) <| sD 1 rfl (pv x2 y2 i2) (qL 1 g1 2 9 59 52 (amcs true v x2 y2 i2) rfl Tryz.underlying52) <| sZ 2 rfl (.pointer (some ⟨g2, 32, none⟩)) <| sD 3 rfl (.int .u64 ((u : Nat) : Int)) (qC 2 g2 32 49 22 (opcs (l32 g) u k l) rfl Tryz.underlying22) <| sD 4 rfl (pv (pX R1) (pY R1) (pI R1)) (qL 3 g3 0 9 52 52 (pcs (pX R1) (pY R1) (pI R1)) rfl Tryz.underlying52) <| sZ 5 rfl (.pointer (some ⟨g2, 37, none⟩)) <| sD 6 rfl (fv l) (qL 2 g2 37 4 49 24 (opcs (l32 g) u k l) rfl Tryz.underlying24) ?_
          obtain ⟨R2, hR2⟩ : ∃ P : Pt, P = valP u R1 l := ⟨_, rfl⟩
          have oR2 : Ec.On R2 := by rw [hR2]; exact valP_on oR1 _ _
          refine sD 7 rfl (pv (pX R2) (pY R2) (pI R2)) (qF 26 #[.int .u64 ((u : Nat) : Int), pv (pX R1) (pY R1) (pI R1), fv l] (valR_of (by assumption) lP lP lP (dec_parts oR1) hR2.symm)) ?_
          obtain ⟨b5, hb5⟩ : ∃ z : Bool, z = sameB x2 y2 i2 (pX R2) (pY R2) (pI R2) := ⟨_, rfl⟩
          cases b5
          · refine sD 8 rfl (.bool false) (Quiet.pure (fun w => (eql_pt w _ _ _ _ _ _ _ _ _ _ rfl rfl rfl lP lP lP lP).trans (by rw [← hb5]))) <| sZ 9 rfl (.bool false) ?_
            refine sI ?_
            refine Sy.ret ?_
            refine Sy.then_ret ?_
            rw [show (.bool (opensB false (l32 f) x y i true v x2 y2 i2 (l32 g) u k l) : Value) = .bool false from by unfold opensB otB oaB; try unfold sameP; (try rw [← hR1]); (try rw [← hR2]); rw [← hb1, ← hb2, ← hb3, ← hb4, ← hb5] <;> rfl]
            exact rV (.bool false) rfl
          · refine sD 8 rfl (.bool true) (Quiet.pure (fun w => (eql_pt w _ _ _ _ _ _ _ _ _ _ rfl rfl rfl lP lP lP lP).trans (by rw [← hb5]))) <| sZ 9 rfl (.bool true) ?_
            refine sI ?_
            refine Sy.ret ?_
            refine Sy.then_ret ?_
            rw [show (.bool (opensB false (l32 f) x y i true v x2 y2 i2 (l32 g) u k l) : Value) = .bool true from by unfold opensB otB oaB; try unfold sameP; (try rw [← hR1]); (try rw [← hR2]); rw [← hb1, ← hb2, ← hb3, ← hb4, ← hb5] <;> rfl]
            exact rV (.bool true) rfl
theorem opensR_ff (w : World) (f : Nat → UInt8) (x y : Nat) (i : Bool) (hx : x < K4) (hy : y < K4) (v : Nat) (hv : v < 18446744073709551616) (x2 y2 : Nat) (i2 : Bool) (hx2 : x2 < K4) (hy2 : y2 < K4) (g : Nat → UInt8) (u k l : Nat) (hu : u < 18446744073709551616) (hk : k < K4) (hl : l < K4) (htr : Sh.TabAt w 0) : Calls Tryz.prog 36 #[tgv false (l32 f) x y i, amv false v x2 y2 i2, opv (l32 g) u k l] w (Gets w (.bool (opensB false (l32 f) x y i false v x2 y2 i2 (l32 g) u k l))) := by
  refine Sy.enter (args := [tgv false (l32 f) x y i, amv false v x2 y2 i2, opv (l32 g) u k l]) Tryz.func36 rfl kL ?_
  refine sC ?_
  refine sM 57 (tgcs false (l32 f) x y i) (fun g0 => ?_)
  refine sM 59 (amcs false v x2 y2 i2) (fun g1 => ?_)
  refine sM 49 (opcs (l32 g) u k l) (fun g2 => ?_)
  refine sP (.bool false) ?_
  refine sA ?_
  refine sS (tgv false (l32 f) x y i) (qL 0 g0 0 42 57 57 (tgcs false (l32 f) x y i) rfl Tryz.underlying57) ?_
  obtain ⟨b1, hb1⟩ : ∃ z : Bool, z = rtagB false (l32 f) x y i := ⟨_, rfl⟩
  refine sS (.bool b1) (qF 28 #[tgv false (l32 f) x y i] (fun w => by rw [hb1]; exact rtagR_any w false f x y i lP lP)) <| sP (.bool b1) ?_
  refine sA ?_
  refine sS (amv false v x2 y2 i2) (qL 1 g1 0 11 59 59 (amcs false v x2 y2 i2) rfl Tryz.underlying59) ?_
  obtain ⟨b2, hb2⟩ : ∃ z : Bool, z = ramtB false v x2 y2 i2 := ⟨_, rfl⟩
  refine sS (.bool b2) (qF 30 #[amv false v x2 y2 i2] (fun w => by rw [hb2]; exact ramtR_any w false v (by assumption) x2 y2 i2 lP lP)) <| sP (.bool b2) ?_
  refine sG ?_
  refine Sy.seq ?_
  refine sC ?_
  refine sP (.bool b1) ?_
  cases b1
  · refine sP (.bool true) <| sP (.bool true) ?_
    refine sN ?_
    refine sN ?_
    refine sP (.bool true) ?_
    refine sG ?_
    refine sT ?_
    refine sC ?_
    refine sP (.bool false) ?_
    refine sG ?_
    refine Sy.ret ?_
    refine Sy.then_ret ?_
    rw [show (.bool (opensB false (l32 f) x y i false v x2 y2 i2 (l32 g) u k l) : Value) = .bool false from by unfold opensB otB oaB; try unfold sameP; rw [← hb1, ← hb2] <;> rfl]
    exact rV (.bool false) rfl
  · refine sP (.bool false) <| sP (.bool false) <| sP (.bool b2) ?_
    cases b2
    · refine sP (.bool true) <| sP (.bool true) ?_
      refine sG ?_
      refine sT ?_
      refine sC ?_
      refine sP (.bool false) ?_
      refine sG ?_
      refine Sy.ret ?_
      refine Sy.then_ret ?_
      rw [show (.bool (opensB false (l32 f) x y i false v x2 y2 i2 (l32 g) u k l) : Value) = .bool false from by unfold opensB otB oaB; try unfold sameP; rw [← hb1, ← hb2] <;> rfl]
      exact rV (.bool false) rfl
    · refine sP (.bool false) <| sP (.bool false) ?_
      refine sG ?_
      refine sU ?_
      refine Sy.skip ?_
      refine sB ?_
      refine sP (.pointer (some ⟨g2, 0, none⟩)) <| sS (.agg ((l32 g).map bv).toArray) (qL 2 g2 0 32 49 47 (opcs (l32 g) u k l) rfl Tryz.underlying47) <| sP (.pointer (some ⟨g2, 33, none⟩)) <| sS (fv k) (qL 2 g2 33 4 49 24 (opcs (l32 g) u k l) rfl Tryz.underlying24) ?_
      obtain ⟨R1, hR1⟩ : ∃ P : Pt, P = assP (l32 g) k := ⟨_, rfl⟩
      have oR1 : Ec.On R1 := by rw [hR1]; exact assP_on _ _
      refine sS (pv (pX R1) (pY R1) (pI R1)) (qG 24 #[.agg ((l32 g).map bv).toArray, fv k] (fun w hw => assR_of (l32_len g) lP (htr.below hw.below htr.lt) hR1.symm)) ?_
      refine sM 52 (pcs 0 0 false) (fun g3 => ?_)
      refine sW 3 g3 52 (pcs 0 0 false) (pcs (pX R1) (pY R1) (pI R1)) (wS 0 52 (pcs (pX R1) (pY R1) (pI R1)) rfl) ?_
      refine sG ?_
      refine Sy.seq ?_
      refine sC ?_
      refine sP (.pointer (some ⟨g0, 0, none⟩)) <| sS (.bool false) (qC 0 g0 0 57 4 (tgcs false (l32 f) x y i) rfl Tryz.underlying4) <| sP (.bool false) ?_
      refine sN ?_
      refine sN ?_
      refine sN ?_
      refine sN ?_
      refine sP (.bool false) ?_
      refine sG ?_
      refine sU ?_
      refine Sy.skip ?_
      refine Sy.then_ ?_
      refine Sy.seq ?_
      refine sC ?_
      refine sP (.pointer (some ⟨g0, 0, none⟩)) <| sS (.bool false) (qC 0 g0 0 57 4 (tgcs false (l32 f) x y i) rfl Tryz.underlying4) <| sP (.bool true) <| sP (.bool true) <| sP (.pointer (some ⟨g0, 1, none⟩)) <| sS (.agg ((l32 f).map bv).toArray) (qL 0 g0 1 32 57 47 (tgcs false (l32 f) x y i) rfl Tryz.underlying47) <| sP (.pointer (some ⟨g2, 0, none⟩)) <| sS (.agg ((l32 g).map bv).toArray) (qL 2 g2 0 32 49 47 (opcs (l32 g) u k l) rfl Tryz.underlying47) ?_
      obtain ⟨b3, hb3⟩ : ∃ z : Bool, z = decide ((l32 f) = (l32 g)) := ⟨_, rfl⟩
      cases b3
      · refine sS (.bool true) (Quiet.pure (fun w => (nne_digest w _ _ _ _ (l32 f) (l32 g) (l32_len f) (l32_len g) rfl rfl rfl).trans (by rw [← hb3]; rfl))) <| sP (.bool true) ?_
        refine sN ?_
        refine sN ?_
        refine sN ?_
        refine sN ?_
        refine sN ?_
        refine sP (.bool true) <| sP (.bool true) ?_
        refine sG ?_
        refine sT ?_
        refine sC ?_
        refine sP (.bool false) ?_
        refine sG ?_
        refine Sy.ret ?_
        refine Sy.then_ret ?_
        rw [show (.bool (opensB false (l32 f) x y i false v x2 y2 i2 (l32 g) u k l) : Value) = .bool false from by unfold opensB otB oaB; try unfold sameP; (try rw [← hR1]); rw [← hb1, ← hb2, ← hb3] <;> rfl]
        exact rV (.bool false) rfl
      · refine sS (.bool false) (Quiet.pure (fun w => (nne_digest w _ _ _ _ (l32 f) (l32 g) (l32_len f) (l32_len g) rfl rfl rfl).trans (by rw [← hb3]; rfl))) <| sP (.bool false) <| sP (.pointer (some ⟨g2, 33, none⟩)) <| sS (fv k) (qL 2 g2 33 4 49 24 (opcs (l32 g) u k l) rfl Tryz.underlying24) <| sS (fv (k % Sc.pM)) (qF 73 #[fv k] (fun w => nsc_any w k lP)) <| sP (fv 0) ?_
        obtain ⟨b4, hb4⟩ : ∃ z : Bool, z = decide ((k % Sc.pM) = 0) := ⟨_, rfl⟩
        cases b4
        · refine sS (.bool true) (Quiet.pure (fun w => (neq_sc w _ _ _ _ _ _ rfl rfl rfl lP lP).trans (by rw [← hb4]; rfl))) <| sP (.bool true) <| sP (.bool true) ?_
          refine sG ?_
          refine sT ?_
          refine sC ?_
          refine sP (.bool false) ?_
          refine sG ?_
          refine Sy.ret ?_
          refine Sy.then_ret ?_
          rw [show (.bool (opensB false (l32 f) x y i false v x2 y2 i2 (l32 g) u k l) : Value) = .bool false from by unfold opensB otB oaB; try unfold sameP; (try rw [← hR1]); rw [← hb1, ← hb2, ← hb3, ← hb4] <;> rfl]
          exact rV (.bool false) rfl
        · refine sS (.bool false) (Quiet.pure (fun w => (neq_sc w _ _ _ _ _ _ rfl rfl rfl lP lP).trans (by rw [← hb4]; rfl))) <| sP (.bool false) <| sP (.bool false) ?_
          refine sG ?_
          refine sU ?_
          refine Sy.skip ?_
          refine Sy.then_ ?_
          refine Sy.seq ?_
          refine sC ?_
          refine sP (.pointer (some ⟨g1, 0, none⟩)) <| sS (.bool false) (qC 1 g1 0 59 4 (amcs false v x2 y2 i2) rfl Tryz.underlying4) ?_
          refine sG ?_
          refine sU ?_
          refine Sy.skip ?_
          refine sB ?_
          refine sP (.pointer (some ⟨g1, 1, none⟩)) <| sS (.int .u64 ((v : Nat) : Int)) (qC 1 g1 1 59 22 (amcs false v x2 y2 i2) rfl Tryz.underlying22) <| sP (.pointer (some ⟨g2, 32, none⟩)) <| sS (.int .u64 ((u : Nat) : Int)) (qC 2 g2 32 49 22 (opcs (l32 g) u k l) rfl Tryz.underlying22) ?_
          obtain ⟨b5, hb5⟩ : ∃ z : Bool, z = decide (v = u) := ⟨_, rfl⟩
          cases b5
          · refine sS (.bool false) (Quiet.pure (exec_int .eql _ _ _ .u64 _ _ _ rfl rfl rfl (int_eql _ _ _ _ _ ((decide_eq_decide.2 (by omega)).trans hb5.symm)))) <| sP (.bool false) ?_
            refine sN ?_
            refine sN ?_
            refine sN ?_
            refine sN ?_
            refine sN ?_
            refine sP (.bool false) <| sP (.bool false) ?_
            refine sG ?_
            refine Sy.ret ?_
            rw [show (.bool (opensB false (l32 f) x y i false v x2 y2 i2 (l32 g) u k l) : Value) = .bool false from by unfold opensB otB oaB; try unfold sameP; (try rw [← hR1]); rw [← hb1, ← hb2, ← hb3, ← hb4, ← hb5] <;> rfl]
            exact rV (.bool false) rfl
          · refine sS (.bool true) (Quiet.pure (exec_int .eql _ _ _ .u64 _ _ _ rfl rfl rfl (int_eql _ _ _ _ _ ((decide_eq_decide.2 (by omega)).trans hb5.symm)))) <| sP (.bool true) <| sP (.pointer (some ⟨g2, 37, none⟩)) <| sS (fv l) (qL 2 g2 37 4 49 24 (opcs (l32 g) u k l) rfl Tryz.underlying24) <| sS (fv (l % Sc.pM)) (qF 73 #[fv l] (fun w => nsc_any w l lP)) <| sP (fv 0) ?_
            obtain ⟨b6, hb6⟩ : ∃ z : Bool, z = decide ((l % Sc.pM) = 0) := ⟨_, rfl⟩
            cases b6
            · refine sS (.bool false) (Quiet.pure (fun w => (eql_sc w _ _ _ _ _ _ rfl rfl rfl lP lP).trans (by rw [← hb6]))) <| sP (.bool false) <| sP (.bool false) ?_
              refine sG ?_
              refine Sy.ret ?_
              rw [show (.bool (opensB false (l32 f) x y i false v x2 y2 i2 (l32 g) u k l) : Value) = .bool false from by unfold opensB otB oaB; try unfold sameP; (try rw [← hR1]); rw [← hb1, ← hb2, ← hb3, ← hb4, ← hb5, ← hb6] <;> rfl]
              exact rV (.bool false) rfl
            · refine sS (.bool true) (Quiet.pure (fun w => (eql_sc w _ _ _ _ _ _ rfl rfl rfl lP lP).trans (by rw [← hb6]))) <| sP (.bool true) <| sP (.bool true) ?_
              refine sG ?_
              refine Sy.ret ?_
              rw [show (.bool (opensB false (l32 f) x y i false v x2 y2 i2 (l32 g) u k l) : Value) = .bool true from by unfold opensB otB oaB; try unfold sameP; (try rw [← hR1]); rw [← hb1, ← hb2, ← hb3, ← hb4, ← hb5, ← hb6] <;> rfl]
              exact rV (.bool true) rfl
theorem opensR_any (w : World) (b : Bool) (c : Bool) (f : Nat → UInt8) (x y : Nat) (i : Bool) (hx : x < K4) (hy : y < K4) (v : Nat) (hv : v < 18446744073709551616) (x2 y2 : Nat) (i2 : Bool) (hx2 : x2 < K4) (hy2 : y2 < K4) (g : Nat → UInt8) (u k l : Nat) (hu : u < 18446744073709551616) (hk : k < K4) (hl : l < K4) (htr : Sh.TabAt w 0) : Calls Tryz.prog 36 #[tgv b (l32 f) x y i, amv c v x2 y2 i2, opv (l32 g) u k l] w (Gets w (.bool (opensB b (l32 f) x y i c v x2 y2 i2 (l32 g) u k l))) := by
  cases b <;> cases c
  · exact opensR_ff w f x y i hx hy v hv x2 y2 i2 hx2 hy2 g u k l hu hk hl htr
  · exact opensR_ft w f x y i hx hy v hv x2 y2 i2 hx2 hy2 g u k l hu hk hl htr
  · exact opensR_tf w f x y i hx hy v hv x2 y2 i2 hx2 hy2 g u k l hu hk hl htr
  · exact opensR_tt w f x y i hx hy v hv x2 y2 i2 hx2 hy2 g u k l hu hk hl htr
end Go.Proofs.YtbofhoonlmikcaaGreatDoor.Cu

end
section
namespace Go.Proofs.YtbofhoonlmikcaaGreatDoor.Cu
open Go.RowKit Go.Proofs.YtbofhoonlmikcaaGreatDoor Go.Proofs.YtbofhoonlmikcaaGreatDoor.Sy

set_option maxHeartbeats 4000000 in
set_option maxRecDepth 100000 in
theorem law_copens (w : World) (b c : Bool) (f : Nat → UInt8) (x y : Nat) (i : Bool) (hx : x < K4) (hy : y < K4) (v : Nat) (hv : v < 18446744073709551616) (x2 y2 : Nat) (i2 : Bool) (hx2 : x2 < K4) (hy2 : y2 < K4) (g : Nat → UInt8) (u k l : Nat) (hu : u < 18446744073709551616) (hk : k < K4) (hl : l < K4) (ht : Sh.TabAt w 1) (htr : Sh.TabAt w 0) : Calls Tryz.prog 9 #[tgv b (l32 f) x y i, amv c v x2 y2 i2, opv (l32 g) u k l] w (Gets w (.bool true)) := by
  refine Sy.enter (args := [tgv b (l32 f) x y i, amv c v x2 y2 i2, opv (l32 g) u k l]) Tryz.func9 rfl kL ?_
  refine sC ?_
  refine sM 57 (tgcs b (l32 f) x y i) (fun g0 => ?_)
  refine sM 59 (amcs c v x2 y2 i2) (fun g1 => ?_)
  refine sM 49 (opcs (l32 g) u k l) (fun g2 => ?_)
  refine sP (.bool false) ?_
  refine sH (fun j => false) ?_
  refine sD 0 rfl (.bool true) (qF 22 #[] (alive7)) <| sZ 1 rfl (.bool true) <| sD 2 rfl (tgv b (l32 f) x y i) (qL 0 g0 0 42 57 57 (tgcs b (l32 f) x y i) rfl Tryz.underlying57) <| sD 3 rfl (amv c v x2 y2 i2) (qL 1 g1 0 11 59 59 (amcs c v x2 y2 i2) rfl Tryz.underlying59) <| sD 4 rfl (opv (l32 g) u k l) (qL 2 g2 0 41 49 49 (opcs (l32 g) u k l) rfl Tryz.underlying49) ?_
  obtain ⟨b1, hb1⟩ : ∃ z : Bool, z = opensB b (l32 f) x y i c v x2 y2 i2 (l32 g) u k l  := ⟨_, rfl⟩
  refine sD 5 rfl (.bool b1) (qG 35 #[tgv b (l32 f) x y i, amv c v x2 y2 i2, opv (l32 g) u k l] (fun w hw => by rw [hb1]; exact opens_any w b c f x y i lP lP v (by assumption) x2 y2 i2 lP lP g u k l (by assumption) lP lP (ht.below hw.below ht.lt))) <| sD 6 rfl (tgv b (l32 f) x y i) (qL 0 g0 0 42 57 57 (tgcs b (l32 f) x y i) rfl Tryz.underlying57) <| sD 7 rfl (amv c v x2 y2 i2) (qL 1 g1 0 11 59 59 (amcs c v x2 y2 i2) rfl Tryz.underlying59) <| sD 8 rfl (opv (l32 g) u k l) (qL 2 g2 0 41 49 49 (opcs (l32 g) u k l) rfl Tryz.underlying49) <| sD 9 rfl (.bool b1) (qG 36 #[tgv b (l32 f) x y i, amv c v x2 y2 i2, opv (l32 g) u k l] (fun w hw => by rw [hb1]; exact opensR_any w b c f x y i lP lP v (by assumption) x2 y2 i2 lP lP g u k l (by assumption) lP lP (htr.below hw.below htr.lt))) <| sD 10 rfl (.bool true) (Quiet.pure (fun w => eql_bool_same w _ _ _ _ b1 rfl rfl rfl)) <| sZ 11 rfl (.bool true) <| sZ 12 rfl (.bool true) ?_
  refine sI ?_
  refine Sy.ret ?_
  exact rV (.bool true) rfl
end Go.Proofs.YtbofhoonlmikcaaGreatDoor.Cu

end
section
namespace Go.Proofs.YtbofhoonlmikcaaGreatDoor.Cu
open Go.RowKit Go.Proofs.YtbofhoonlmikcaaGreatDoor Go.Proofs.YtbofhoonlmikcaaGreatDoor.Sy
set_option maxRecDepth 100000
set_option maxHeartbeats 4000000

theorem chides_tt (w : World) (f : Nat → UInt8) (u k l : Nat) (hu : u < 18446744073709551616) (hk : k < K4) (hl : l < K4) (ht : Sh.TabAt w 1) (htr : Sh.TabAt w 0) : Calls Tryz.prog 10 #[opv (l32 f) u k l, .bool true, .bool true] w (Gets w (.bool true)) := by
  have z0 : 0 < K4 := by decide
  have z1 : 0 < 18446744073709551616 := by decide
  refine Sy.enter (args := [opv (l32 f) u k l, .bool true, .bool true]) Tryz.func10 rfl kL ?_
  refine sC ?_
  refine sM 49 (opcs (l32 f) u k l) (fun g0 => ?_)
  refine sP (.bool false) ?_
  refine sA ?_
  refine sP (.pointer (some ⟨g0, 0, none⟩)) <| sS (.agg ((l32 f).map bv).toArray) (qL 0 g0 0 32 49 47 (opcs (l32 f) u k l) rfl Tryz.underlying47) <| sP (tgv false (l32 f) 0 0 false) ?_
  refine sM 57 (tgcs false (l32 (fun _ => (0 : UInt8))) 0 0 false) (fun g1 => ?_)
  refine sW 1 g1 57 (tgcs false (l32 (fun _ => (0 : UInt8))) 0 0 false) (tgcs false (l32 f) 0 0 false) (wS 0 57 (tgcs false (l32 f) 0 0 false) rfl) ?_
  refine sG ?_
  refine Sy.seq ?_
  refine sC ?_
  refine sP (.bool true) ?_
  refine sG ?_
  refine sT ?_
  refine Sy.region ?_
  refine sP (.pointer (some ⟨g0, 0, none⟩)) <| sS (.agg ((l32 f).map bv).toArray) (qL 0 g0 0 32 49 47 (opcs (l32 f) u k l) rfl Tryz.underlying47) <| sP (.pointer (some ⟨g0, 33, none⟩)) <| sS (fv k) (qL 0 g0 33 4 49 24 (opcs (l32 f) u k l) rfl Tryz.underlying24) ?_
  obtain ⟨R1, hR1⟩ : ∃ P : Pt, P = assP (l32 f) k := ⟨_, rfl⟩
  have oR1 : Ec.On R1 := by rw [hR1]; exact assP_on _ _
  refine sS (pv (pX R1) (pY R1) (pI R1)) (qG 23 #[.agg ((l32 f).map bv).toArray, fv k] (fun w hw => ass_of (l32_len f) lP (ht.below hw.below ht.lt) hR1.symm)) <| sP (tgv true (l32 (fun _ => (0 : UInt8))) (pX R1) (pY R1) (pI R1)) <| sW 1 g1 57 (tgcs false (l32 f) 0 0 false) (tgcs true (l32 (fun _ => (0 : UInt8))) (pX R1) (pY R1) (pI R1)) (wS 0 57 (tgcs true (l32 (fun _ => (0 : UInt8))) (pX R1) (pY R1) (pI R1)) rfl) ?_
  refine sA ?_
  refine sP (.pointer (some ⟨g0, 32, none⟩)) <| sS (.int .u64 ((u : Nat) : Int)) (qC 0 g0 32 49 22 (opcs (l32 f) u k l) rfl Tryz.underlying22) <| sP (amv false u 0 0 false) ?_
  refine sM 59 (amcs false 0 0 0 false) (fun g2 => ?_)
  refine sW 2 g2 59 (amcs false 0 0 0 false) (amcs false u 0 0 false) (wS 0 59 (amcs false u 0 0 false) rfl) ?_
  refine sG ?_
  refine Sy.seq ?_
  refine sC ?_
  refine sP (.bool true) ?_
  refine sG ?_
  refine sT ?_
  refine Sy.regionD (fun j => j == 8) kR ?_
  refine sZ 0 rfl (.pointer (some ⟨g0, 32, none⟩)) <| sD 1 rfl (.int .u64 ((u : Nat) : Int)) (qC 0 g0 32 49 22 (opcs (l32 f) u k l) rfl Tryz.underlying22) <| sD 2 rfl (tgv true (l32 (fun _ => (0 : UInt8))) (pX R1) (pY R1) (pI R1)) (qL 1 g1 0 42 57 57 (tgcs true (l32 (fun _ => (0 : UInt8))) (pX R1) (pY R1) (pI R1)) rfl Tryz.underlying57) <| sD 3 rfl (pv (pX R1) (pY R1) (pI R1)) (qG 31 #[tgv true (l32 (fun _ => (0 : UInt8))) (pX R1) (pY R1) (pI R1)] (fun w hw => tag_t w (fun _ => (0 : UInt8)) (pX R1) (pY R1) (pI R1) lP lP (ht.below hw.below ht.lt))) <| sZ 4 rfl (.pointer (some ⟨g0, 37, none⟩)) <| sD 5 rfl (fv l) (qL 0 g0 37 4 49 24 (opcs (l32 f) u k l) rfl Tryz.underlying24) ?_
  obtain ⟨R2, hR2⟩ : ∃ P : Pt, P = valP u R1 l := ⟨_, rfl⟩
  have oR2 : Ec.On R2 := by rw [hR2]; exact valP_on oR1 _ _
  refine sD 6 rfl (pv (pX R2) (pY R2) (pI R2)) (qF 25 #[.int .u64 ((u : Nat) : Int), pv (pX R1) (pY R1) (pI R1), fv l] (val_of (by assumption) lP lP lP (dec_parts oR1) hR2.symm)) <| sZ 7 rfl (amv true 0 (pX R2) (pY R2) (pI R2)) <| sX 8 rfl 2 g2 59 (amcs false u 0 0 false) (amcs true 0 (pX R2) (pY R2) (pI R2)) (wS 0 59 (amcs true 0 (pX R2) (pY R2) (pI R2)) rfl) ?_
  refine sI ?_
  refine Sy.seq ?_
  refine Sy.seq ?_
  refine Sy.regionD (fun j => false) kR ?_
  refine sD 0 rfl (.bool true) (qF 22 #[] (alive7)) <| sZ 1 rfl (.bool false) <| sZ 2 rfl (.bool false) <| sD 3 rfl (tgv true (l32 (fun _ => (0 : UInt8))) (pX R1) (pY R1) (pI R1)) (qL 1 g1 0 42 57 57 (tgcs true (l32 (fun _ => (0 : UInt8))) (pX R1) (pY R1) (pI R1)) rfl Tryz.underlying57) <| sD 4 rfl (amv true 0 (pX R2) (pY R2) (pI R2)) (qL 2 g2 0 11 59 59 (amcs true 0 (pX R2) (pY R2) (pI R2)) rfl Tryz.underlying59) <| sD 5 rfl (pv (pX R2) (pY R2) (pI R2)) (qG 33 #[tgv true (l32 (fun _ => (0 : UInt8))) (pX R1) (pY R1) (pI R1), amv true 0 (pX R2) (pY R2) (pI R2)] (fun w hw => by have q := amt_any w true (fun _ => (0 : UInt8)) (pX R1) (pY R1) (pI R1) lP lP true 0 (by assumption) (pX R2) (pY R2) (pI R2) lP lP (ht.below hw.below ht.lt); exact q)) <| sZ 6 rfl (.pointer (some ⟨g0, 32, none⟩)) <| sD 7 rfl (.int .u64 ((u : Nat) : Int)) (qC 0 g0 32 49 22 (opcs (l32 f) u k l) rfl Tryz.underlying22) ?_
  refine sZ 8 rfl (.pointer (some ⟨g0, 0, none⟩)) <| sD 9 rfl (.agg ((l32 f).map bv).toArray) (qL 0 g0 0 32 49 47 (opcs (l32 f) u k l) rfl Tryz.underlying47) <| sZ 10 rfl (.pointer (some ⟨g0, 33, none⟩)) <| sD 11 rfl (fv k) (qL 0 g0 33 4 49 24 (opcs (l32 f) u k l) rfl Tryz.underlying24) <| sD 12 rfl (pv (pX R1) (pY R1) (pI R1)) (qG 24 #[.agg ((l32 f).map bv).toArray, fv k] (fun w hw => assR_of (l32_len f) lP (htr.below hw.below htr.lt) hR1.symm)) <| sZ 13 rfl (.pointer (some ⟨g0, 37, none⟩)) <| sD 14 rfl (fv l) (qL 0 g0 37 4 49 24 (opcs (l32 f) u k l) rfl Tryz.underlying24) <| sD 15 rfl (pv (pX R2) (pY R2) (pI R2)) (qF 26 #[.int .u64 ((u : Nat) : Int), pv (pX R1) (pY R1) (pI R1), fv l] (valR_of (by assumption) lP lP lP (dec_parts oR1) hR2.symm)) ?_
  refine sD 16 rfl (.bool false) (Quiet.pure (fun w => (neq_pt w _ _ _ _ _ _ _ _ _ _ rfl rfl rfl lP lP lP lP).trans (by rw [sameB_self]; rfl))) <| sZ 17 rfl (.bool false) ?_
  refine sI ?_
  refine sU ?_
  refine Sy.skip ?_
  refine sB ?_
  refine sS (tgv true (l32 (fun _ => (0 : UInt8))) (pX R1) (pY R1) (pI R1)) (qL 1 g1 0 42 57 57 (tgcs true (l32 (fun _ => (0 : UInt8))) (pX R1) (pY R1) (pI R1)) rfl Tryz.underlying57) ?_
  obtain ⟨b1, hb1⟩ : ∃ z : Bool, z = rtagB true (l32 (fun _ => (0 : UInt8))) (pX R1) (pY R1) (pI R1) := ⟨_, rfl⟩
  refine sS (.bool b1) (qF 27 #[tgv true (l32 (fun _ => (0 : UInt8))) (pX R1) (pY R1) (pI R1)] (fun w => by rw [hb1]; exact rtag_any w true (fun _ => (0 : UInt8)) (pX R1) (pY R1) (pI R1) lP lP)) <| sP (.bool b1) ?_
  cases b1
  · refine sN ?_
    refine sN ?_
    refine sP (.bool false) <| sP (.bool false) ?_
    refine sA ?_
    refine sS (tgv true (l32 (fun _ => (0 : UInt8))) (pX R1) (pY R1) (pI R1)) (qL 1 g1 0 42 57 57 (tgcs true (l32 (fun _ => (0 : UInt8))) (pX R1) (pY R1) (pI R1)) rfl Tryz.underlying57) <| sS (amv true 0 (pX R2) (pY R2) (pI R2)) (qL 2 g2 0 11 59 59 (amcs true 0 (pX R2) (pY R2) (pI R2)) rfl Tryz.underlying59) <| sS (opv (l32 f) u k l) (qL 0 g0 0 41 49 49 (opcs (l32 f) u k l) rfl Tryz.underlying49) <| sS (.bool false) (qG 35 #[tgv true (l32 (fun _ => (0 : UInt8))) (pX R1) (pY R1) (pI R1), amv true 0 (pX R2) (pY R2) (pI R2), opv (l32 f) u k l] (fun w hw => by have q := opens_any w true true (fun _ => (0 : UInt8)) (pX R1) (pY R1) (pI R1) lP lP 0 (by assumption) (pX R2) (pY R2) (pI R2) lP lP f u k l (by assumption) lP lP (ht.below hw.below ht.lt); unfold opensB at q; rw [← hb1] at q; exact q)) <| sP (.bool false) <| sS (.bool true) (Quiet.pure (fun w => eql_bool_same w _ _ _ _ false rfl rfl rfl)) <| sP (.bool true) ?_
    refine sG ?_
    refine Sy.ret ?_
    exact rV (.bool true) rfl
  · refine sS (amv true 0 (pX R2) (pY R2) (pI R2)) (qL 2 g2 0 11 59 59 (amcs true 0 (pX R2) (pY R2) (pI R2)) rfl Tryz.underlying59) ?_
    obtain ⟨b2, hb2⟩ : ∃ z : Bool, z = ramtB true 0 (pX R2) (pY R2) (pI R2) := ⟨_, rfl⟩
    refine sS (.bool b2) (qF 29 #[amv true 0 (pX R2) (pY R2) (pI R2)] (fun w => by rw [hb2]; exact ramt_any w true 0 (by first | assumption | decide) (pX R2) (pY R2) (pI R2) lP lP)) <| sP (.bool b2) <| sP (.bool b2) ?_
    refine sA ?_
    refine sS (tgv true (l32 (fun _ => (0 : UInt8))) (pX R1) (pY R1) (pI R1)) (qL 1 g1 0 42 57 57 (tgcs true (l32 (fun _ => (0 : UInt8))) (pX R1) (pY R1) (pI R1)) rfl Tryz.underlying57) <| sS (amv true 0 (pX R2) (pY R2) (pI R2)) (qL 2 g2 0 11 59 59 (amcs true 0 (pX R2) (pY R2) (pI R2)) rfl Tryz.underlying59) <| sS (opv (l32 f) u k l) (qL 0 g0 0 41 49 49 (opcs (l32 f) u k l) rfl Tryz.underlying49) ?_
    have qt : otB true (l32 (fun _ => (0 : UInt8))) (pX R1) (pY R1) (pI R1) (l32 f) k = true := by
      unfold otB sameP; rw [if_pos rfl, ← hR1]; exact sameB_self _ _ _
    have qa : oaB true 0 (pX R2) (pY R2) (pI R2) (l32 f) u k l = true := by
      unfold oaB sameP; rw [if_pos rfl, ← hR1, ← hR2]; exact sameB_self _ _ _
    refine sS (.bool b2) (qG 35 #[tgv true (l32 (fun _ => (0 : UInt8))) (pX R1) (pY R1) (pI R1), amv true 0 (pX R2) (pY R2) (pI R2), opv (l32 f) u k l] (fun w hw => by have q := opens_any w true true (fun _ => (0 : UInt8)) (pX R1) (pY R1) (pI R1) lP lP 0 (by assumption) (pX R2) (pY R2) (pI R2) lP lP f u k l (by assumption) lP lP (ht.below hw.below ht.lt); unfold opensB at q; rw [← hb1, ← hb2, qt, qa, Bool.true_and, Bool.and_true, Bool.and_true] at q; exact q)) <| sP (.bool b2) <| sS (.bool true) (Quiet.pure (fun w => eql_bool_same w _ _ _ _ b2 rfl rfl rfl)) <| sP (.bool true) ?_
    refine sG ?_
    refine Sy.ret ?_
    exact rV (.bool true) rfl
theorem chides_tf (w : World) (f : Nat → UInt8) (u k l : Nat) (hu : u < 18446744073709551616) (hk : k < K4) (hl : l < K4) (ht : Sh.TabAt w 1) (htr : Sh.TabAt w 0) : Calls Tryz.prog 10 #[opv (l32 f) u k l, .bool true, .bool false] w (Gets w (.bool true)) := by
  have z0 : 0 < K4 := by decide
  have z1 : 0 < 18446744073709551616 := by decide
  refine Sy.enter (args := [opv (l32 f) u k l, .bool true, .bool false]) Tryz.func10 rfl kL ?_
  refine sC ?_
  refine sM 49 (opcs (l32 f) u k l) (fun g0 => ?_)
  refine sP (.bool false) ?_
  refine sA ?_
  refine sP (.pointer (some ⟨g0, 0, none⟩)) <| sS (.agg ((l32 f).map bv).toArray) (qL 0 g0 0 32 49 47 (opcs (l32 f) u k l) rfl Tryz.underlying47) <| sP (tgv false (l32 f) 0 0 false) ?_
  refine sM 57 (tgcs false (l32 (fun _ => (0 : UInt8))) 0 0 false) (fun g1 => ?_)
  refine sW 1 g1 57 (tgcs false (l32 (fun _ => (0 : UInt8))) 0 0 false) (tgcs false (l32 f) 0 0 false) (wS 0 57 (tgcs false (l32 f) 0 0 false) rfl) ?_
  refine sG ?_
  refine Sy.seq ?_
  refine sC ?_
  refine sP (.bool true) ?_
  refine sG ?_
  refine sT ?_
  refine Sy.region ?_
  refine sP (.pointer (some ⟨g0, 0, none⟩)) <| sS (.agg ((l32 f).map bv).toArray) (qL 0 g0 0 32 49 47 (opcs (l32 f) u k l) rfl Tryz.underlying47) <| sP (.pointer (some ⟨g0, 33, none⟩)) <| sS (fv k) (qL 0 g0 33 4 49 24 (opcs (l32 f) u k l) rfl Tryz.underlying24) ?_
  obtain ⟨R1, hR1⟩ : ∃ P : Pt, P = assP (l32 f) k := ⟨_, rfl⟩
  have oR1 : Ec.On R1 := by rw [hR1]; exact assP_on _ _
  refine sS (pv (pX R1) (pY R1) (pI R1)) (qG 23 #[.agg ((l32 f).map bv).toArray, fv k] (fun w hw => ass_of (l32_len f) lP (ht.below hw.below ht.lt) hR1.symm)) <| sP (tgv true (l32 (fun _ => (0 : UInt8))) (pX R1) (pY R1) (pI R1)) <| sW 1 g1 57 (tgcs false (l32 f) 0 0 false) (tgcs true (l32 (fun _ => (0 : UInt8))) (pX R1) (pY R1) (pI R1)) (wS 0 57 (tgcs true (l32 (fun _ => (0 : UInt8))) (pX R1) (pY R1) (pI R1)) rfl) ?_
  refine sA ?_
  refine sP (.pointer (some ⟨g0, 32, none⟩)) <| sS (.int .u64 ((u : Nat) : Int)) (qC 0 g0 32 49 22 (opcs (l32 f) u k l) rfl Tryz.underlying22) <| sP (amv false u 0 0 false) ?_
  refine sM 59 (amcs false 0 0 0 false) (fun g2 => ?_)
  refine sW 2 g2 59 (amcs false 0 0 0 false) (amcs false u 0 0 false) (wS 0 59 (amcs false u 0 0 false) rfl) ?_
  refine sG ?_
  refine Sy.seq ?_
  refine sC ?_
  refine sP (.bool false) ?_
  refine sG ?_
  refine sU ?_
  refine Sy.region ?_
  refine sP (fv 0) <| sP (.pointer (some ⟨g0, 37, none⟩)) <| sW 0 g0 49 (opcs (l32 f) u k l) (opcs (l32 f) u k 0) (wS 37 24 (fcs 0) rfl) ?_
  refine sG ?_
  refine Sy.seq ?_
  refine Sy.seq ?_
  refine Sy.regionD (fun j => false) kR ?_
  refine sD 0 rfl (.bool true) (qF 22 #[] (alive7)) <| sZ 1 rfl (.bool false) <| sZ 2 rfl (.bool false) <| sD 3 rfl (tgv true (l32 (fun _ => (0 : UInt8))) (pX R1) (pY R1) (pI R1)) (qL 1 g1 0 42 57 57 (tgcs true (l32 (fun _ => (0 : UInt8))) (pX R1) (pY R1) (pI R1)) rfl Tryz.underlying57) <| sD 4 rfl (amv false u 0 0 false) (qL 2 g2 0 11 59 59 (amcs false u 0 0 false) rfl Tryz.underlying59) ?_
  obtain ⟨R2, hR2⟩ : ∃ P : Pt, P = Ec.nm finv (u % Sc.pM) R1 := ⟨_, rfl⟩
  have oR2 : Ec.On R2 := by rw [hR2]; exact oR1.nm fld _
  refine sD 5 rfl (pv (pX R2) (pY R2) (pI R2)) (qG 33 #[tgv true (l32 (fun _ => (0 : UInt8))) (pX R1) (pY R1) (pI R1), amv false u 0 0 false] (fun w hw => by have q := amt_any w true (fun _ => (0 : UInt8)) (pX R1) (pY R1) (pI R1) lP lP false u (by assumption) 0 0 false lP lP (ht.below hw.below ht.lt); unfold amtV tagP at q; rw [if_neg (by decide), if_pos rfl, (dec_parts oR1), ← hR2, ptv_parts] at q; exact q)) <| sZ 6 rfl (.pointer (some ⟨g0, 32, none⟩)) <| sD 7 rfl (.int .u64 ((u : Nat) : Int)) (qC 0 g0 32 49 22 (opcs (l32 f) u k 0) rfl Tryz.underlying22) <| sZ 8 rfl (.pointer (some ⟨g0, 0, none⟩)) <| sD 9 rfl (.agg ((l32 f).map bv).toArray) (qL 0 g0 0 32 49 47 (opcs (l32 f) u k 0) rfl Tryz.underlying47) <| sZ 10 rfl (.pointer (some ⟨g0, 33, none⟩)) <| sD 11 rfl (fv k) (qL 0 g0 33 4 49 24 (opcs (l32 f) u k 0) rfl Tryz.underlying24) <| sD 12 rfl (pv (pX R1) (pY R1) (pI R1)) (qG 24 #[.agg ((l32 f).map bv).toArray, fv k] (fun w hw => assR_of (l32_len f) lP (htr.below hw.below htr.lt) hR1.symm)) ?_
  refine sZ 13 rfl (.pointer (some ⟨g0, 37, none⟩)) <| sD 14 rfl (fv 0) (qL 0 g0 37 4 49 24 (opcs (l32 f) u k 0) rfl Tryz.underlying24) <| sD 15 rfl (pv (pX R2) (pY R2) (pI R2)) (qF 26 #[.int .u64 ((u : Nat) : Int), pv (pX R1) (pY R1) (pI R1), fv 0] (valR_of (by assumption) lP lP (by decide) (dec_parts oR1) ((valP_zero _ _).trans hR2.symm))) <| sD 16 rfl (.bool false) (Quiet.pure (fun w => (neq_pt w _ _ _ _ _ _ _ _ _ _ rfl rfl rfl lP lP lP lP).trans (by rw [sameB_self]; rfl))) <| sZ 17 rfl (.bool false) ?_
  refine sI ?_
  refine sU ?_
  refine Sy.skip ?_
  refine sB ?_
  refine sS (tgv true (l32 (fun _ => (0 : UInt8))) (pX R1) (pY R1) (pI R1)) (qL 1 g1 0 42 57 57 (tgcs true (l32 (fun _ => (0 : UInt8))) (pX R1) (pY R1) (pI R1)) rfl Tryz.underlying57) ?_
  obtain ⟨b1, hb1⟩ : ∃ z : Bool, z = rtagB true (l32 (fun _ => (0 : UInt8))) (pX R1) (pY R1) (pI R1) := ⟨_, rfl⟩
  refine sS (.bool b1) (qF 27 #[tgv true (l32 (fun _ => (0 : UInt8))) (pX R1) (pY R1) (pI R1)] (fun w => by rw [hb1]; exact rtag_any w true (fun _ => (0 : UInt8)) (pX R1) (pY R1) (pI R1) lP lP)) <| sP (.bool b1) ?_
  cases b1
  · refine sN ?_
    refine sN ?_
    refine sP (.bool false) <| sP (.bool false) ?_
    refine sA ?_
    refine sS (tgv true (l32 (fun _ => (0 : UInt8))) (pX R1) (pY R1) (pI R1)) (qL 1 g1 0 42 57 57 (tgcs true (l32 (fun _ => (0 : UInt8))) (pX R1) (pY R1) (pI R1)) rfl Tryz.underlying57) <| sS (amv false u 0 0 false) (qL 2 g2 0 11 59 59 (amcs false u 0 0 false) rfl Tryz.underlying59) <| sS (opv (l32 f) u k 0) (qL 0 g0 0 41 49 49 (opcs (l32 f) u k 0) rfl Tryz.underlying49) <| sS (.bool false) (qG 35 #[tgv true (l32 (fun _ => (0 : UInt8))) (pX R1) (pY R1) (pI R1), amv false u 0 0 false, opv (l32 f) u k 0] (fun w hw => by have q := opens_any w true false (fun _ => (0 : UInt8)) (pX R1) (pY R1) (pI R1) lP lP u (by assumption) 0 0 false lP lP f u k 0 (by assumption) lP lP (ht.below hw.below ht.lt); unfold opensB at q; rw [← hb1] at q; exact q)) <| sP (.bool false) <| sS (.bool true) (Quiet.pure (fun w => eql_bool_same w _ _ _ _ false rfl rfl rfl)) <| sP (.bool true) ?_
    refine sG ?_
    refine Sy.ret ?_
    exact rV (.bool true) rfl
  · refine sS (amv false u 0 0 false) (qL 2 g2 0 11 59 59 (amcs false u 0 0 false) rfl Tryz.underlying59) ?_
    obtain ⟨b2, hb2⟩ : ∃ z : Bool, z = ramtB false u 0 0 false := ⟨_, rfl⟩
    refine sS (.bool b2) (qF 29 #[amv false u 0 0 false] (fun w => by rw [hb2]; exact ramt_any w false u (by first | assumption | decide) 0 0 false lP lP)) <| sP (.bool b2) <| sP (.bool b2) ?_
    refine sA ?_
    refine sS (tgv true (l32 (fun _ => (0 : UInt8))) (pX R1) (pY R1) (pI R1)) (qL 1 g1 0 42 57 57 (tgcs true (l32 (fun _ => (0 : UInt8))) (pX R1) (pY R1) (pI R1)) rfl Tryz.underlying57) <| sS (amv false u 0 0 false) (qL 2 g2 0 11 59 59 (amcs false u 0 0 false) rfl Tryz.underlying59) <| sS (opv (l32 f) u k 0) (qL 0 g0 0 41 49 49 (opcs (l32 f) u k 0) rfl Tryz.underlying49) ?_
    have qt : otB true (l32 (fun _ => (0 : UInt8))) (pX R1) (pY R1) (pI R1) (l32 f) k = true := by
      unfold otB sameP; rw [if_pos rfl, ← hR1]; exact sameB_self _ _ _
    have qa : oaB false u 0 0 false (l32 f) u k 0 = true := by
      unfold oaB; rw [if_neg (by decide), decide_eq_true rfl, zero_pM]; rfl
    refine sS (.bool b2) (qG 35 #[tgv true (l32 (fun _ => (0 : UInt8))) (pX R1) (pY R1) (pI R1), amv false u 0 0 false, opv (l32 f) u k 0] (fun w hw => by have q := opens_any w true false (fun _ => (0 : UInt8)) (pX R1) (pY R1) (pI R1) lP lP u (by assumption) 0 0 false lP lP f u k 0 (by assumption) lP lP (ht.below hw.below ht.lt); unfold opensB at q; rw [← hb1, ← hb2, qt, qa, Bool.true_and, Bool.and_true, Bool.and_true] at q; exact q)) <| sP (.bool b2) <| sS (.bool true) (Quiet.pure (fun w => eql_bool_same w _ _ _ _ b2 rfl rfl rfl)) <| sP (.bool true) ?_
    refine sG ?_
    refine Sy.ret ?_
    exact rV (.bool true) rfl
theorem chides_ft (w : World) (f : Nat → UInt8) (u k l : Nat) (hu : u < 18446744073709551616) (hk : k < K4) (hl : l < K4) (ht : Sh.TabAt w 1) (htr : Sh.TabAt w 0) : Calls Tryz.prog 10 #[opv (l32 f) u k l, .bool false, .bool true] w (Gets w (.bool true)) := by
  have z0 : 0 < K4 := by decide
  have z1 : 0 < 18446744073709551616 := by decide
  refine Sy.enter (args := [opv (l32 f) u k l, .bool false, .bool true]) Tryz.func10 rfl kL ?_
  refine sC ?_
  refine sM 49 (opcs (l32 f) u k l) (fun g0 => ?_)
  refine sP (.bool false) ?_
  refine sA ?_
  refine sP (.pointer (some ⟨g0, 0, none⟩)) <| sS (.agg ((l32 f).map bv).toArray) (qL 0 g0 0 32 49 47 (opcs (l32 f) u k l) rfl Tryz.underlying47) <| sP (tgv false (l32 f) 0 0 false) ?_
  refine sM 57 (tgcs false (l32 (fun _ => (0 : UInt8))) 0 0 false) (fun g1 => ?_)
  refine sW 1 g1 57 (tgcs false (l32 (fun _ => (0 : UInt8))) 0 0 false) (tgcs false (l32 f) 0 0 false) (wS 0 57 (tgcs false (l32 f) 0 0 false) rfl) ?_
  refine sG ?_
  refine Sy.seq ?_
  refine sC ?_
  refine sP (.bool false) ?_
  refine sG ?_
  refine sU ?_
  refine Sy.region ?_
  refine sP (fv 0) <| sP (.pointer (some ⟨g0, 33, none⟩)) <| sW 0 g0 49 (opcs (l32 f) u k l) (opcs (l32 f) u 0 l) (wS 33 24 (fcs 0) rfl) ?_
  refine sA ?_
  refine sP (.pointer (some ⟨g0, 32, none⟩)) <| sS (.int .u64 ((u : Nat) : Int)) (qC 0 g0 32 49 22 (opcs (l32 f) u 0 l) rfl Tryz.underlying22) <| sP (amv false u 0 0 false) ?_
  refine sM 59 (amcs false 0 0 0 false) (fun g2 => ?_)
  refine sW 2 g2 59 (amcs false 0 0 0 false) (amcs false u 0 0 false) (wS 0 59 (amcs false u 0 0 false) rfl) ?_
  refine sG ?_
  refine Sy.seq ?_
  refine sC ?_
  refine sP (.bool true) ?_
  refine sG ?_
  refine sT ?_
  refine Sy.regionD (fun j => j == 8) kR ?_
  refine sZ 0 rfl (.pointer (some ⟨g0, 32, none⟩)) <| sD 1 rfl (.int .u64 ((u : Nat) : Int)) (qC 0 g0 32 49 22 (opcs (l32 f) u 0 l) rfl Tryz.underlying22) <| sD 2 rfl (tgv false (l32 f) 0 0 false) (qL 1 g1 0 42 57 57 (tgcs false (l32 f) 0 0 false) rfl Tryz.underlying57) ?_
  obtain ⟨R1, hR1⟩ : ∃ P : Pt, P = genP (l32 f) := ⟨_, rfl⟩
  have oR1 : Ec.On R1 := by rw [hR1]; exact genP_on _
  refine sD 3 rfl (pv (pX R1) (pY R1) (pI R1)) (qG 31 #[tgv false (l32 f) 0 0 false] (fun w hw => by have q := tag_f w f 0 0 false lP lP (ht.below hw.below ht.lt); rw [← hR1, ptv_parts] at q; exact q)) <| sZ 4 rfl (.pointer (some ⟨g0, 37, none⟩)) <| sD 5 rfl (fv l) (qL 0 g0 37 4 49 24 (opcs (l32 f) u 0 l) rfl Tryz.underlying24) ?_
  obtain ⟨R2, hR2⟩ : ∃ P : Pt, P = valP u R1 l := ⟨_, rfl⟩
  have oR2 : Ec.On R2 := by rw [hR2]; exact valP_on oR1 _ _
  refine sD 6 rfl (pv (pX R2) (pY R2) (pI R2)) (qF 25 #[.int .u64 ((u : Nat) : Int), pv (pX R1) (pY R1) (pI R1), fv l] (val_of (by assumption) lP lP lP (dec_parts oR1) hR2.symm)) <| sZ 7 rfl (amv true 0 (pX R2) (pY R2) (pI R2)) <| sX 8 rfl 2 g2 59 (amcs false u 0 0 false) (amcs true 0 (pX R2) (pY R2) (pI R2)) (wS 0 59 (amcs true 0 (pX R2) (pY R2) (pI R2)) rfl) ?_
  refine sI ?_
  refine Sy.seq ?_
  refine Sy.seq ?_
  refine Sy.regionD (fun j => false) kR ?_
  refine sD 0 rfl (.bool true) (qF 22 #[] (alive7)) <| sZ 1 rfl (.bool false) <| sZ 2 rfl (.bool false) <| sD 3 rfl (tgv false (l32 f) 0 0 false) (qL 1 g1 0 42 57 57 (tgcs false (l32 f) 0 0 false) rfl Tryz.underlying57) <| sD 4 rfl (amv true 0 (pX R2) (pY R2) (pI R2)) (qL 2 g2 0 11 59 59 (amcs true 0 (pX R2) (pY R2) (pI R2)) rfl Tryz.underlying59) <| sD 5 rfl (pv (pX R2) (pY R2) (pI R2)) (qG 33 #[tgv false (l32 f) 0 0 false, amv true 0 (pX R2) (pY R2) (pI R2)] (fun w hw => by have q := amt_any w false f 0 0 false lP lP true 0 (by assumption) (pX R2) (pY R2) (pI R2) lP lP (ht.below hw.below ht.lt); exact q)) <| sZ 6 rfl (.pointer (some ⟨g0, 32, none⟩)) <| sD 7 rfl (.int .u64 ((u : Nat) : Int)) (qC 0 g0 32 49 22 (opcs (l32 f) u 0 l) rfl Tryz.underlying22) ?_
  refine sZ 8 rfl (.pointer (some ⟨g0, 0, none⟩)) <| sD 9 rfl (.agg ((l32 f).map bv).toArray) (qL 0 g0 0 32 49 47 (opcs (l32 f) u 0 l) rfl Tryz.underlying47) <| sZ 10 rfl (.pointer (some ⟨g0, 33, none⟩)) <| sD 11 rfl (fv 0) (qL 0 g0 33 4 49 24 (opcs (l32 f) u 0 l) rfl Tryz.underlying24) <| sD 12 rfl (pv (pX R1) (pY R1) (pI R1)) (qG 24 #[.agg ((l32 f).map bv).toArray, fv 0] (fun w hw => assR_of (l32_len f) (by decide) (htr.below hw.below htr.lt) ((assP_zero _).trans hR1.symm))) <| sZ 13 rfl (.pointer (some ⟨g0, 37, none⟩)) <| sD 14 rfl (fv l) (qL 0 g0 37 4 49 24 (opcs (l32 f) u 0 l) rfl Tryz.underlying24) <| sD 15 rfl (pv (pX R2) (pY R2) (pI R2)) (qF 26 #[.int .u64 ((u : Nat) : Int), pv (pX R1) (pY R1) (pI R1), fv l] (valR_of (by assumption) lP lP lP (dec_parts oR1) hR2.symm)) ?_
  refine sD 16 rfl (.bool false) (Quiet.pure (fun w => (neq_pt w _ _ _ _ _ _ _ _ _ _ rfl rfl rfl lP lP lP lP).trans (by rw [sameB_self]; rfl))) <| sZ 17 rfl (.bool false) ?_
  refine sI ?_
  refine sU ?_
  refine Sy.skip ?_
  refine sB ?_
  refine sS (tgv false (l32 f) 0 0 false) (qL 1 g1 0 42 57 57 (tgcs false (l32 f) 0 0 false) rfl Tryz.underlying57) ?_
  obtain ⟨b1, hb1⟩ : ∃ z : Bool, z = rtagB false (l32 f) 0 0 false := ⟨_, rfl⟩
  refine sS (.bool b1) (qF 27 #[tgv false (l32 f) 0 0 false] (fun w => by rw [hb1]; exact rtag_any w false f 0 0 false lP lP)) <| sP (.bool b1) ?_
  cases b1
  · refine sN ?_
    refine sN ?_
    refine sP (.bool false) <| sP (.bool false) ?_
    refine sA ?_
    refine sS (tgv false (l32 f) 0 0 false) (qL 1 g1 0 42 57 57 (tgcs false (l32 f) 0 0 false) rfl Tryz.underlying57) <| sS (amv true 0 (pX R2) (pY R2) (pI R2)) (qL 2 g2 0 11 59 59 (amcs true 0 (pX R2) (pY R2) (pI R2)) rfl Tryz.underlying59) <| sS (opv (l32 f) u 0 l) (qL 0 g0 0 41 49 49 (opcs (l32 f) u 0 l) rfl Tryz.underlying49) <| sS (.bool false) (qG 35 #[tgv false (l32 f) 0 0 false, amv true 0 (pX R2) (pY R2) (pI R2), opv (l32 f) u 0 l] (fun w hw => by have q := opens_any w false true f 0 0 false lP lP 0 (by assumption) (pX R2) (pY R2) (pI R2) lP lP f u 0 l (by assumption) lP lP (ht.below hw.below ht.lt); unfold opensB at q; rw [← hb1] at q; exact q)) <| sP (.bool false) <| sS (.bool true) (Quiet.pure (fun w => eql_bool_same w _ _ _ _ false rfl rfl rfl)) <| sP (.bool true) ?_
    refine sG ?_
    refine Sy.ret ?_
    exact rV (.bool true) rfl
  · refine sS (amv true 0 (pX R2) (pY R2) (pI R2)) (qL 2 g2 0 11 59 59 (amcs true 0 (pX R2) (pY R2) (pI R2)) rfl Tryz.underlying59) ?_
    obtain ⟨b2, hb2⟩ : ∃ z : Bool, z = ramtB true 0 (pX R2) (pY R2) (pI R2) := ⟨_, rfl⟩
    refine sS (.bool b2) (qF 29 #[amv true 0 (pX R2) (pY R2) (pI R2)] (fun w => by rw [hb2]; exact ramt_any w true 0 (by first | assumption | decide) (pX R2) (pY R2) (pI R2) lP lP)) <| sP (.bool b2) <| sP (.bool b2) ?_
    refine sA ?_
    refine sS (tgv false (l32 f) 0 0 false) (qL 1 g1 0 42 57 57 (tgcs false (l32 f) 0 0 false) rfl Tryz.underlying57) <| sS (amv true 0 (pX R2) (pY R2) (pI R2)) (qL 2 g2 0 11 59 59 (amcs true 0 (pX R2) (pY R2) (pI R2)) rfl Tryz.underlying59) <| sS (opv (l32 f) u 0 l) (qL 0 g0 0 41 49 49 (opcs (l32 f) u 0 l) rfl Tryz.underlying49) ?_
    have qt : otB false (l32 f) 0 0 false (l32 f) 0 = true := by
      unfold otB; rw [if_neg (by decide), decide_eq_true rfl, zero_pM]; rfl
    have qa : oaB true 0 (pX R2) (pY R2) (pI R2) (l32 f) u 0 l = true := by
      unfold oaB sameP; rw [if_pos rfl, assP_zero, ← hR1, ← hR2]; exact sameB_self _ _ _
    refine sS (.bool b2) (qG 35 #[tgv false (l32 f) 0 0 false, amv true 0 (pX R2) (pY R2) (pI R2), opv (l32 f) u 0 l] (fun w hw => by have q := opens_any w false true f 0 0 false lP lP 0 (by assumption) (pX R2) (pY R2) (pI R2) lP lP f u 0 l (by assumption) lP lP (ht.below hw.below ht.lt); unfold opensB at q; rw [← hb1, ← hb2, qt, qa, Bool.true_and, Bool.and_true, Bool.and_true] at q; exact q)) <| sP (.bool b2) <| sS (.bool true) (Quiet.pure (fun w => eql_bool_same w _ _ _ _ b2 rfl rfl rfl)) <| sP (.bool true) ?_
    refine sG ?_
    refine Sy.ret ?_
    exact rV (.bool true) rfl
theorem chides_ff (w : World) (f : Nat → UInt8) (u k l : Nat) (hu : u < 18446744073709551616) (hk : k < K4) (hl : l < K4) (ht : Sh.TabAt w 1) (htr : Sh.TabAt w 0) : Calls Tryz.prog 10 #[opv (l32 f) u k l, .bool false, .bool false] w (Gets w (.bool true)) := by
  have z0 : 0 < K4 := by decide
  have z1 : 0 < 18446744073709551616 := by decide
  refine Sy.enter (args := [opv (l32 f) u k l, .bool false, .bool false]) Tryz.func10 rfl kL ?_
  refine sC ?_
  refine sM 49 (opcs (l32 f) u k l) (fun g0 => ?_)
  refine sP (.bool false) ?_
  refine sA ?_
  refine sP (.pointer (some ⟨g0, 0, none⟩)) <| sS (.agg ((l32 f).map bv).toArray) (qL 0 g0 0 32 49 47 (opcs (l32 f) u k l) rfl Tryz.underlying47) <| sP (tgv false (l32 f) 0 0 false) ?_
  refine sM 57 (tgcs false (l32 (fun _ => (0 : UInt8))) 0 0 false) (fun g1 => ?_)
  refine sW 1 g1 57 (tgcs false (l32 (fun _ => (0 : UInt8))) 0 0 false) (tgcs false (l32 f) 0 0 false) (wS 0 57 (tgcs false (l32 f) 0 0 false) rfl) ?_
  refine sG ?_
  refine Sy.seq ?_
  refine sC ?_
  refine sP (.bool false) ?_
  refine sG ?_
  refine sU ?_
  refine Sy.region ?_
  refine sP (fv 0) <| sP (.pointer (some ⟨g0, 33, none⟩)) <| sW 0 g0 49 (opcs (l32 f) u k l) (opcs (l32 f) u 0 l) (wS 33 24 (fcs 0) rfl) ?_
  refine sA ?_
  refine sP (.pointer (some ⟨g0, 32, none⟩)) <| sS (.int .u64 ((u : Nat) : Int)) (qC 0 g0 32 49 22 (opcs (l32 f) u 0 l) rfl Tryz.underlying22) <| sP (amv false u 0 0 false) ?_
  refine sM 59 (amcs false 0 0 0 false) (fun g2 => ?_)
  refine sW 2 g2 59 (amcs false 0 0 0 false) (amcs false u 0 0 false) (wS 0 59 (amcs false u 0 0 false) rfl) ?_
  refine sG ?_
  refine Sy.seq ?_
  refine sC ?_
  refine sP (.bool false) ?_
  refine sG ?_
  refine sU ?_
  refine Sy.region ?_
  refine sP (fv 0) <| sP (.pointer (some ⟨g0, 37, none⟩)) <| sW 0 g0 49 (opcs (l32 f) u 0 l) (opcs (l32 f) u 0 0) (wS 37 24 (fcs 0) rfl) ?_
  refine sG ?_
  refine Sy.seq ?_
  refine Sy.seq ?_
  refine Sy.regionD (fun j => false) kR ?_
  refine sD 0 rfl (.bool true) (qF 22 #[] (alive7)) <| sZ 1 rfl (.bool false) <| sZ 2 rfl (.bool false) <| sD 3 rfl (tgv false (l32 f) 0 0 false) (qL 1 g1 0 42 57 57 (tgcs false (l32 f) 0 0 false) rfl Tryz.underlying57) <| sD 4 rfl (amv false u 0 0 false) (qL 2 g2 0 11 59 59 (amcs false u 0 0 false) rfl Tryz.underlying59) ?_
  obtain ⟨R1, hR1⟩ : ∃ P : Pt, P = genP (l32 f) := ⟨_, rfl⟩
  have oR1 : Ec.On R1 := by rw [hR1]; exact genP_on _
  obtain ⟨R2, hR2⟩ : ∃ P : Pt, P = Ec.nm finv (u % Sc.pM) R1 := ⟨_, rfl⟩
  have oR2 : Ec.On R2 := by rw [hR2]; exact oR1.nm fld _
  refine sD 5 rfl (pv (pX R2) (pY R2) (pI R2)) (qG 33 #[tgv false (l32 f) 0 0 false, amv false u 0 0 false] (fun w hw => by have q := amt_any w false f 0 0 false lP lP false u (by assumption) 0 0 false lP lP (ht.below hw.below ht.lt); unfold amtV tagP at q; rw [if_neg (by decide), if_neg (by decide), ← hR1, ← hR2, ptv_parts] at q; exact q)) <| sZ 6 rfl (.pointer (some ⟨g0, 32, none⟩)) <| sD 7 rfl (.int .u64 ((u : Nat) : Int)) (qC 0 g0 32 49 22 (opcs (l32 f) u 0 0) rfl Tryz.underlying22) <| sZ 8 rfl (.pointer (some ⟨g0, 0, none⟩)) <| sD 9 rfl (.agg ((l32 f).map bv).toArray) (qL 0 g0 0 32 49 47 (opcs (l32 f) u 0 0) rfl Tryz.underlying47) <| sZ 10 rfl (.pointer (some ⟨g0, 33, none⟩)) <| sD 11 rfl (fv 0) (qL 0 g0 33 4 49 24 (opcs (l32 f) u 0 0) rfl Tryz.underlying24) <| sD 12 rfl (pv (pX R1) (pY R1) (pI R1)) (qG 24 #[.agg ((l32 f).map bv).toArray, fv 0] (fun w hw => assR_of (l32_len f) (by decide) (htr.below hw.below htr.lt) ((assP_zero _).trans hR1.symm))) ?_
  refine sZ 13 rfl (.pointer (some ⟨g0, 37, none⟩)) <| sD 14 rfl (fv 0) (qL 0 g0 37 4 49 24 (opcs (l32 f) u 0 0) rfl Tryz.underlying24) <| sD 15 rfl (pv (pX R2) (pY R2) (pI R2)) (qF 26 #[.int .u64 ((u : Nat) : Int), pv (pX R1) (pY R1) (pI R1), fv 0] (valR_of (by assumption) lP lP (by decide) (dec_parts oR1) ((valP_zero _ _).trans hR2.symm))) <| sD 16 rfl (.bool false) (Quiet.pure (fun w => (neq_pt w _ _ _ _ _ _ _ _ _ _ rfl rfl rfl lP lP lP lP).trans (by rw [sameB_self]; rfl))) <| sZ 17 rfl (.bool false) ?_
  refine sI ?_
  refine sU ?_
  refine Sy.skip ?_
  refine sB ?_
  refine sS (tgv false (l32 f) 0 0 false) (qL 1 g1 0 42 57 57 (tgcs false (l32 f) 0 0 false) rfl Tryz.underlying57) ?_
  obtain ⟨b1, hb1⟩ : ∃ z : Bool, z = rtagB false (l32 f) 0 0 false := ⟨_, rfl⟩
  refine sS (.bool b1) (qF 27 #[tgv false (l32 f) 0 0 false] (fun w => by rw [hb1]; exact rtag_any w false f 0 0 false lP lP)) <| sP (.bool b1) ?_
  cases b1
  · refine sN ?_
    refine sN ?_
    refine sP (.bool false) <| sP (.bool false) ?_
    refine sA ?_
    refine sS (tgv false (l32 f) 0 0 false) (qL 1 g1 0 42 57 57 (tgcs false (l32 f) 0 0 false) rfl Tryz.underlying57) <| sS (amv false u 0 0 false) (qL 2 g2 0 11 59 59 (amcs false u 0 0 false) rfl Tryz.underlying59) <| sS (opv (l32 f) u 0 0) (qL 0 g0 0 41 49 49 (opcs (l32 f) u 0 0) rfl Tryz.underlying49) <| sS (.bool false) (qG 35 #[tgv false (l32 f) 0 0 false, amv false u 0 0 false, opv (l32 f) u 0 0] (fun w hw => by have q := opens_any w false false f 0 0 false lP lP u (by assumption) 0 0 false lP lP f u 0 0 (by assumption) lP lP (ht.below hw.below ht.lt); unfold opensB at q; rw [← hb1] at q; exact q)) <| sP (.bool false) <| sS (.bool true) (Quiet.pure (fun w => eql_bool_same w _ _ _ _ false rfl rfl rfl)) <| sP (.bool true) ?_
    refine sG ?_
    refine Sy.ret ?_
    exact rV (.bool true) rfl
  · refine sS (amv false u 0 0 false) (qL 2 g2 0 11 59 59 (amcs false u 0 0 false) rfl Tryz.underlying59) ?_
    obtain ⟨b2, hb2⟩ : ∃ z : Bool, z = ramtB false u 0 0 false := ⟨_, rfl⟩
    refine sS (.bool b2) (qF 29 #[amv false u 0 0 false] (fun w => by rw [hb2]; exact ramt_any w false u (by first | assumption | decide) 0 0 false lP lP)) <| sP (.bool b2) <| sP (.bool b2) ?_
    refine sA ?_
    refine sS (tgv false (l32 f) 0 0 false) (qL 1 g1 0 42 57 57 (tgcs false (l32 f) 0 0 false) rfl Tryz.underlying57) <| sS (amv false u 0 0 false) (qL 2 g2 0 11 59 59 (amcs false u 0 0 false) rfl Tryz.underlying59) <| sS (opv (l32 f) u 0 0) (qL 0 g0 0 41 49 49 (opcs (l32 f) u 0 0) rfl Tryz.underlying49) ?_
    have qt : otB false (l32 f) 0 0 false (l32 f) 0 = true := by
      unfold otB; rw [if_neg (by decide), decide_eq_true rfl, zero_pM]; rfl
    have qa : oaB false u 0 0 false (l32 f) u 0 0 = true := by
      unfold oaB; rw [if_neg (by decide), decide_eq_true rfl, zero_pM]; rfl
    refine sS (.bool b2) (qG 35 #[tgv false (l32 f) 0 0 false, amv false u 0 0 false, opv (l32 f) u 0 0] (fun w hw => by have q := opens_any w false false f 0 0 false lP lP u (by assumption) 0 0 false lP lP f u 0 0 (by assumption) lP lP (ht.below hw.below ht.lt); unfold opensB at q; rw [← hb1, ← hb2, qt, qa, Bool.true_and, Bool.and_true, Bool.and_true] at q; exact q)) <| sP (.bool b2) <| sS (.bool true) (Quiet.pure (fun w => eql_bool_same w _ _ _ _ b2 rfl rfl rfl)) <| sP (.bool true) ?_
    refine sG ?_
    refine Sy.ret ?_
    exact rV (.bool true) rfl
theorem law_chides (w : World) (b c : Bool) (f : Nat → UInt8) (u k l : Nat) (hu : u < 18446744073709551616) (hk : k < K4) (hl : l < K4) (ht : Sh.TabAt w 1) (htr : Sh.TabAt w 0) : Calls Tryz.prog 10 #[opv (l32 f) u k l, .bool b, .bool c] w (Gets w (.bool true)) := by
  cases b <;> cases c
  · exact chides_ff w f u k l hu hk hl ht htr
  · exact chides_ft w f u k l hu hk hl ht htr
  · exact chides_tf w f u k l hu hk hl ht htr
  · exact chides_tt w f u k l hu hk hl ht htr
end Go.Proofs.YtbofhoonlmikcaaGreatDoor.Cu

end
