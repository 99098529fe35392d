/-
  Texts of ours, put together: CrvL, CrvM, RefNum, RefMinus, SymC, SymE, RowZ, FoldZ, RefFold, RefAdd.
-/
import Derived.Test.YtbofhoonlmikcaaBB2
set_option linter.unusedVariables false
set_option linter.unusedSimpArgs false
section
namespace Go.Proofs.Ytbofhoonlmikcaa.Cu
open Go.RowKit Go.Proofs.Ytbofhoonlmikcaa Go.Proofs.Ytbofhoonlmikcaa.Sy

set_option maxHeartbeats 4000000 in
set_option maxRecDepth 100000 in
theorem addJ_c (w : World) (a b : J) : Calls Try.prog 33 #[tv a.x.val a.y.val a.z.val, tv b.x.val b.y.val b.z.val] w (Gets w (tv (addJ a b).x.val (addJ a b).y.val (addJ a b).z.val)) := by
  refine Sy.enter (args := [tv a.x.val a.y.val a.z.val, tv b.x.val b.y.val b.z.val]) Try.func33 rfl kL ?_
  refine sC ?_
  refine sM 62 (tcs a.x.val a.y.val a.z.val) (fun g0 => ?_)
  refine sM 62 (tcs b.x.val b.y.val b.z.val) (fun g1 => ?_)
  refine sM 62 (tcs 0 0 0) (fun g2 => ?_)
  refine sG ?_
  refine Sy.seq ?_
  refine Sy.seq ?_
  refine Sy.regionD (fun j => false) kR ?_
  refine sZ 0 rfl (.pointer (some ⟨g0, 8, none⟩)) <| sD 1 rfl (fv a.z.val) (qL 0 g0 8 4 62 27 (tcs a.x.val a.y.val a.z.val) rfl Try.underlying27) ?_
  obtain ⟨z1, hz1⟩ : ∃ z : Fp, z = (0 : Fp) := ⟨_, rfl⟩
  refine sD 2 rfl (fv z1.val) (qF 51 #[.int .u64 0] (fun w => by rw [hz1]; exact of_c 0 (by decide +kernel) (by decide) w)) ?_
  obtain ⟨b1, hb1⟩ : ∃ z : Bool, z = decide (a.z.val = z1.val) := ⟨_, rfl⟩
  refine sD 3 rfl (.bool b1) (Quiet.pure (fun w => by rw [hb1]; exact eql_fe w _ _ _ _ _ _ rfl rfl rfl lK lK)) ?_
  refine sI ?_
  cases b1
  · have eb1 : a.z ≠ 0 := fun e => of_decide_eq_false hb1.symm (by rw [e, hz1])
    refine sU ?_
    refine Sy.skip ?_
    refine Sy.then_ ?_
    refine Sy.seq ?_
    refine Sy.seq ?_
    refine Sy.regionD (fun j => false) kR ?_
    refine sZ 0 rfl (.pointer (some ⟨g1, 8, none⟩)) <| sD 1 rfl (fv b.z.val) (qL 1 g1 8 4 62 27 (tcs b.x.val b.y.val b.z.val) rfl Try.underlying27) ?_
    obtain ⟨z2, hz2⟩ : ∃ z : Fp, z = (0 : Fp) := ⟨_, rfl⟩
    refine sD 2 rfl (fv z2.val) (qF 51 #[.int .u64 0] (fun w => by rw [hz2]; exact of_c 0 (by decide +kernel) (by decide) w)) ?_
    obtain ⟨b2, hb2⟩ : ∃ z : Bool, z = decide (b.z.val = z2.val) := ⟨_, rfl⟩
    refine sD 3 rfl (.bool b2) (Quiet.pure (fun w => by rw [hb2]; exact eql_fe w _ _ _ _ _ _ rfl rfl rfl lK lK)) ?_
    refine sI ?_
    cases b2
    · have eb2 : b.z ≠ 0 := fun e => of_decide_eq_false hb2.symm (by rw [e, hz2])
      refine sU ?_
      refine Sy.skip ?_
      refine sB ?_
      refine sS (tv a.x.val a.y.val a.z.val) (qL 0 g0 0 12 62 62 (tcs a.x.val a.y.val a.z.val) rfl Try.underlying62) <| sP (.pointer (some ⟨g1, 8, none⟩)) <| sS (fv b.z.val) (qL 1 g1 8 4 62 27 (tcs b.x.val b.y.val b.z.val) rfl Try.underlying27) ?_
      obtain ⟨z3, hz3⟩ : ∃ z : Fp, z = uJ a b := ⟨_, rfl⟩
      obtain ⟨z4, hz4⟩ : ∃ z : Fp, z = vJ a b := ⟨_, rfl⟩
      refine sS (.tuple #[fv z3.val, fv z4.val]) (qF 52 #[tv a.x.val a.y.val a.z.val, fv b.z.val] (fun w => by rw [hz3, hz4]; exact widened_c w a b.z)) <| sP (.tuple #[fv z3.val, fv z4.val]) <| sP (fv z3.val) <| sP (fv z4.val) ?_
      refine sM 27 (fcs 0) (fun g3 => ?_)
      refine sM 27 (fcs 0) (fun g4 => ?_)
      refine sW 3 g3 27 (fcs 0) (fcs z3.val) (wS 0 27 (fcs z3.val) rfl) <| sW 4 g4 27 (fcs 0) (fcs z4.val) (wS 0 27 (fcs z4.val) rfl) ?_
      refine sA ?_
      refine sS (tv b.x.val b.y.val b.z.val) (qL 1 g1 0 12 62 62 (tcs b.x.val b.y.val b.z.val) rfl Try.underlying62) <| sP (.pointer (some ⟨g0, 8, none⟩)) <| sS (fv a.z.val) (qL 0 g0 8 4 62 27 (tcs a.x.val a.y.val a.z.val) rfl Try.underlying27) ?_
      obtain ⟨z5, hz5⟩ : ∃ z : Fp, z = uJ b a := ⟨_, rfl⟩
      obtain ⟨z6, hz6⟩ : ∃ z : Fp, z = vJ b a := ⟨_, rfl⟩
      refine sS (.tuple #[fv z5.val, fv z6.val]) (qF 52 #[tv b.x.val b.y.val b.z.val, fv a.z.val] (fun w => by rw [hz5, hz6]; exact widened_c w b a.z)) <| sP (.tuple #[fv z5.val, fv z6.val]) <| sP (fv z5.val) <| sP (fv z6.val) ?_
      refine sM 27 (fcs 0) (fun g5 => ?_)
      refine sM 27 (fcs 0) (fun g6 => ?_)
      refine sW 5 g5 27 (fcs 0) (fcs z5.val) (wS 0 27 (fcs z5.val) rfl) <| sW 6 g6 27 (fcs 0) (fcs z6.val) (wS 0 27 (fcs z6.val) rfl) ?_
      refine sH (fun j => j == 8 || j == 9) ?_
      refine sD 0 rfl (fv z5.val) (qL 5 g5 0 4 27 27 (fcs z5.val) rfl Try.underlying27) <| sD 1 rfl (fv z3.val) (qL 3 g3 0 4 27 27 (fcs z3.val) rfl Try.underlying27) ?_
      obtain ⟨z7, hz7⟩ : ∃ z : Fp, z = z5 - z3 := ⟨_, rfl⟩
      refine sD 2 rfl (fv z7.val) (qF 48 #[fv z5.val, fv z3.val] (by rw [hz7]; exact sub_c z5 z3)) ?_
      refine Sy.stepDB 3 [5, 8, 9] rfl kR (fun _ _ _ _ h => h) kR (fv z6.val) (qL 6 g6 0 4 27 27 (fcs z6.val) rfl Try.underlying27) ?_
      refine Sy.stepDB 4 [5, 8, 9] rfl kR (fun _ _ _ _ h => h) kR (fv z4.val) (qL 4 g4 0 4 27 27 (fcs z4.val) rfl Try.underlying27) ?_
      obtain ⟨z8, hz8⟩ : ∃ z : Fp, z = z6 - z4 := ⟨_, rfl⟩
      refine sD 5 rfl (fv z8.val) (qF 48 #[fv z6.val, fv z4.val] (by rw [hz8]; exact sub_c z6 z4)) ?_
      refine Sy.makeDuo 6 7 rfl rfl kR kR kR 9 10 rfl rfl rfl (by decide) kR kR kF kF 27 27 (fcs 0) (fcs 0) ptr ptr (fun _ _ => by kernel_rfl) (fun _ _ => by kernel_rfl) (fun g7 g8 => ?_)
      refine sX 8 rfl 7 g7 27 (fcs 0) (fcs z7.val) (wS 0 27 (fcs z7.val) rfl) <| sX 9 rfl 8 g8 27 (fcs 0) (fcs z8.val) (wS 0 27 (fcs z8.val) rfl) ?_
      refine sI ?_
      refine Sy.seq ?_
      refine Sy.seq ?_
      refine Sy.regionD (fun j => false) kR ?_
      refine sD 0 rfl (fv z7.val) (qL 7 g7 0 4 27 27 (fcs z7.val) rfl Try.underlying27) ?_
      obtain ⟨z9, hz9⟩ : ∃ z : Fp, z = (0 : Fp) := ⟨_, rfl⟩
      refine sD 1 rfl (fv z9.val) (qF 51 #[.int .u64 0] (fun w => by rw [hz9]; exact of_c 0 (by decide +kernel) (by decide) w)) ?_
      obtain ⟨b3, hb3⟩ : ∃ z : Bool, z = decide (z7.val = z9.val) := ⟨_, rfl⟩
      refine sD 2 rfl (.bool b3) (Quiet.pure (fun w => by rw [hb3]; exact eql_fe w _ _ _ _ _ _ rfl rfl rfl lK lK)) <| sZ 3 rfl (.bool b3) ?_
      cases b3
      · have eb3 : z7 ≠ 0 := fun e => of_decide_eq_false hb3.symm (by rw [e, hz9])
        refine sQ 4 rfl <| sQ 5 rfl <| sQ 6 rfl <| sZ 7 rfl (.bool false) ?_
        refine sI ?_
        refine sU ?_
        refine Sy.skip ?_
        refine sB ?_
        refine sS (fv z7.val) (qL 7 g7 0 4 27 27 (fcs z7.val) rfl Try.underlying27) <| sS (fv z7.val) (qL 7 g7 0 4 27 27 (fcs z7.val) rfl Try.underlying27) ?_
        obtain ⟨z10, hz10⟩ : ∃ z : Fp, z = z7 * z7 := ⟨_, rfl⟩
        refine sS (fv z10.val) (qF 49 #[fv z7.val, fv z7.val] (by rw [hz10]; exact mul_c z7 z7)) ?_
        refine sM 27 (fcs 0) (fun g9 => ?_)
        refine sW 9 g9 27 (fcs 0) (fcs z10.val) (wS 0 27 (fcs z10.val) rfl) ?_
        refine sA ?_
        refine sS (fv z10.val) (qL 9 g9 0 4 27 27 (fcs z10.val) rfl Try.underlying27) <| sS (fv z7.val) (qL 7 g7 0 4 27 27 (fcs z7.val) rfl Try.underlying27) ?_
        obtain ⟨z11, hz11⟩ : ∃ z : Fp, z = z10 * z7 := ⟨_, rfl⟩
        refine sS (fv z11.val) (qF 49 #[fv z10.val, fv z7.val] (by rw [hz11]; exact mul_c z10 z7)) ?_
        refine sM 27 (fcs 0) (fun g10 => ?_)
        refine sW 10 g10 27 (fcs 0) (fcs z11.val) (wS 0 27 (fcs z11.val) rfl) ?_
        refine sA ?_
        refine sS (fv z3.val) (qL 3 g3 0 4 27 27 (fcs z3.val) rfl Try.underlying27) <| sS (fv z10.val) (qL 9 g9 0 4 27 27 (fcs z10.val) rfl Try.underlying27) ?_
        obtain ⟨z12, hz12⟩ : ∃ z : Fp, z = z3 * z10 := ⟨_, rfl⟩
        refine sS (fv z12.val) (qF 49 #[fv z3.val, fv z10.val] (by rw [hz12]; exact mul_c z3 z10)) <| sW 3 g3 27 (fcs z3.val) (fcs z12.val) (wS 0 27 (fcs z12.val) rfl) ?_
        refine sA ?_
        refine sM 62 (tcs 0 0 0) (fun g11 => ?_)
        refine sH (fun j => j == 10) ?_
        refine sD 0 rfl (fv z8.val) (qL 8 g8 0 4 27 27 (fcs z8.val) rfl Try.underlying27) <| sD 1 rfl (fv z8.val) (qL 8 g8 0 4 27 27 (fcs z8.val) rfl Try.underlying27) ?_
        obtain ⟨z13, hz13⟩ : ∃ z : Fp, z = z8 * z8 := ⟨_, rfl⟩
        refine sD 2 rfl (fv z13.val) (qF 49 #[fv z8.val, fv z8.val] (by rw [hz13]; exact mul_c z8 z8)) <| sD 3 rfl (fv z11.val) (qL 10 g10 0 4 27 27 (fcs z11.val) rfl Try.underlying27) ?_
        obtain ⟨z14, hz14⟩ : ∃ z : Fp, z = z13 - z11 := ⟨_, rfl⟩
        refine sD 4 rfl (fv z14.val) (qF 48 #[fv z13.val, fv z11.val] (by rw [hz14]; exact sub_c z13 z11)) <| sD 5 rfl (fv z12.val) (qL 3 g3 0 4 27 27 (fcs z12.val) rfl Try.underlying27) <| sD 6 rfl (fv z12.val) (qL 3 g3 0 4 27 27 (fcs z12.val) rfl Try.underlying27) ?_
        obtain ⟨z15, hz15⟩ : ∃ z : Fp, z = z12 + z12 := ⟨_, rfl⟩
        refine sD 7 rfl (fv z15.val) (qF 54 #[fv z12.val, fv z12.val] (by rw [hz15]; exact add_c z12 z12)) ?_
        obtain ⟨z16, hz16⟩ : ∃ z : Fp, z = z14 - z15 := ⟨_, rfl⟩
        refine sD 8 rfl (fv z16.val) (qF 48 #[fv z14.val, fv z15.val] (by rw [hz16]; exact sub_c z14 z15)) <| sZ 9 rfl (.pointer (some ⟨g11, 0, none⟩)) <| sX 10 rfl 11 g11 62 (tcs 0 0 0) (tcs z16.val 0 0) (wS 0 27 (fcs z16.val) rfl) ?_
        refine sE ?_
        refine sR (fun j => j == 11) ?_
        refine sD 0 rfl (fv z8.val) (qL 8 g8 0 4 27 27 (fcs z8.val) rfl Try.underlying27) <| sD 1 rfl (fv z12.val) (qL 3 g3 0 4 27 27 (fcs z12.val) rfl Try.underlying27) <| sZ 2 rfl (.pointer (some ⟨g11, 0, none⟩)) <| sD 3 rfl (fv z16.val) (qL 11 g11 0 4 62 27 (tcs z16.val 0 0) rfl Try.underlying27) ?_
        obtain ⟨z17, hz17⟩ : ∃ z : Fp, z = z12 - z16 := ⟨_, rfl⟩
        refine sD 4 rfl (fv z17.val) (qF 48 #[fv z12.val, fv z16.val] (by rw [hz17]; exact sub_c z12 z16)) ?_
        obtain ⟨z18, hz18⟩ : ∃ z : Fp, z = z8 * z17 := ⟨_, rfl⟩
        refine sD 5 rfl (fv z18.val) (qF 49 #[fv z8.val, fv z17.val] (by rw [hz18]; exact mul_c z8 z17)) <| sD 6 rfl (fv z4.val) (qL 4 g4 0 4 27 27 (fcs z4.val) rfl Try.underlying27) <| sD 7 rfl (fv z11.val) (qL 10 g10 0 4 27 27 (fcs z11.val) rfl Try.underlying27) ?_
        obtain ⟨z19, hz19⟩ : ∃ z : Fp, z = z4 * z11 := ⟨_, rfl⟩
        refine sD 8 rfl (fv z19.val) (qF 49 #[fv z4.val, fv z11.val] (by rw [hz19]; exact mul_c z4 z11)) ?_
        obtain ⟨z20, hz20⟩ : ∃ z : Fp, z = z18 - z19 := ⟨_, rfl⟩
        refine sD 9 rfl (fv z20.val) (qF 48 #[fv z18.val, fv z19.val] (by rw [hz20]; exact sub_c z18 z19)) <| sZ 10 rfl (.pointer (some ⟨g11, 4, none⟩)) <| sX 11 rfl 11 g11 62 (tcs z16.val 0 0) (tcs z16.val z20.val 0) (wS 4 27 (fcs z20.val) rfl) ?_
        refine sE ?_
        refine sR (fun j => j == 8) ?_
        refine sZ 0 rfl (.pointer (some ⟨g0, 8, none⟩)) <| sD 1 rfl (fv a.z.val) (qL 0 g0 8 4 62 27 (tcs a.x.val a.y.val a.z.val) rfl Try.underlying27) <| sZ 2 rfl (.pointer (some ⟨g1, 8, none⟩)) <| sD 3 rfl (fv b.z.val) (qL 1 g1 8 4 62 27 (tcs b.x.val b.y.val b.z.val) rfl Try.underlying27) ?_
        obtain ⟨z21, hz21⟩ : ∃ z : Fp, z = a.z * b.z := ⟨_, rfl⟩
        refine sD 4 rfl (fv z21.val) (qF 49 #[fv a.z.val, fv b.z.val] (by rw [hz21]; exact mul_c a.z b.z)) <| sD 5 rfl (fv z7.val) (qL 7 g7 0 4 27 27 (fcs z7.val) rfl Try.underlying27) ?_
        obtain ⟨z22, hz22⟩ : ∃ z : Fp, z = z21 * z7 := ⟨_, rfl⟩
        refine sD 6 rfl (fv z22.val) (qF 49 #[fv z21.val, fv z7.val] (by rw [hz22]; exact mul_c z21 z7)) <| sZ 7 rfl (.pointer (some ⟨g11, 8, none⟩)) <| sX 8 rfl 11 g11 62 (tcs z16.val z20.val 0) (tcs z16.val z20.val z22.val) (wS 8 27 (fcs z22.val) rfl) ?_
        refine sE ?_
        refine sB ?_
        refine sS (tv z16.val z20.val z22.val) (qL 11 g11 0 12 62 62 (tcs z16.val z20.val z22.val) rfl Try.underlying62) <| sW 2 g2 62 (tcs 0 0 0) (tcs z16.val z20.val z22.val) (wS 0 62 (tcs z16.val z20.val z22.val) rfl) ?_
        refine sG ?_
        refine Sy.ret ?_
        rw [show (tv (addJ a b).x.val (addJ a b).y.val (addJ a b).z.val : Value) = tv z16.val z20.val z22.val from by
          rw [addJ_4 eb1 eb2 (fun k => eb3 (by rw [hz7, hz3, hz5]; exact k.1))]
          simp only [hz22, hz21, hz20, hz19, hz18, hz17, hz16, hz15, hz14, hz13, hz12, hz11, hz10, hz8, hz7, hz6, hz5, hz4, hz3]
          rfl]
        exact rC (v := tv z16.val z20.val z22.val) 62 g2 2 (tcs z16.val z20.val z22.val) rfl Try.underlying62
      · have eb3 : z7 = 0 := (Fin.ext (of_decide_eq_true hb3.symm)).trans hz9
        refine sD 4 rfl (fv z8.val) (qL 8 g8 0 4 27 27 (fcs z8.val) rfl Try.underlying27) ?_
        obtain ⟨z23, hz23⟩ : ∃ z : Fp, z = (0 : Fp) := ⟨_, rfl⟩
        refine sD 5 rfl (fv z23.val) (qF 51 #[.int .u64 0] (fun w => by rw [hz23]; exact of_c 0 (by decide +kernel) (by decide) w)) ?_
        obtain ⟨b4, hb4⟩ : ∃ z : Bool, z = decide (z8.val = z23.val) := ⟨_, rfl⟩
        refine sD 6 rfl (.bool b4) (Quiet.pure (fun w => by rw [hb4]; exact eql_fe w _ _ _ _ _ _ rfl rfl rfl lK lK)) <| sZ 7 rfl (.bool b4) ?_
        refine sI ?_
        cases b4
        · have eb4 : z8 ≠ 0 := fun e => of_decide_eq_false hb4.symm (by rw [e, hz23])
          refine sU ?_
          refine Sy.skip ?_
          refine sB ?_
          refine sS (fv z7.val) (qL 7 g7 0 4 27 27 (fcs z7.val) rfl Try.underlying27) <| sS (fv z7.val) (qL 7 g7 0 4 27 27 (fcs z7.val) rfl Try.underlying27) ?_
          obtain ⟨z24, hz24⟩ : ∃ z : Fp, z = z7 * z7 := ⟨_, rfl⟩
          refine sS (fv z24.val) (qF 49 #[fv z7.val, fv z7.val] (by rw [hz24]; exact mul_c z7 z7)) ?_
          refine sM 27 (fcs 0) (fun g12 => ?_)
          refine sW 9 g12 27 (fcs 0) (fcs z24.val) (wS 0 27 (fcs z24.val) rfl) ?_
          refine sA ?_
          refine sS (fv z24.val) (qL 9 g12 0 4 27 27 (fcs z24.val) rfl Try.underlying27) <| sS (fv z7.val) (qL 7 g7 0 4 27 27 (fcs z7.val) rfl Try.underlying27) ?_
          obtain ⟨z25, hz25⟩ : ∃ z : Fp, z = z24 * z7 := ⟨_, rfl⟩
          refine sS (fv z25.val) (qF 49 #[fv z24.val, fv z7.val] (by rw [hz25]; exact mul_c z24 z7)) ?_
          refine sM 27 (fcs 0) (fun g13 => ?_)
          refine sW 10 g13 27 (fcs 0) (fcs z25.val) (wS 0 27 (fcs z25.val) rfl) ?_
          refine sA ?_
          refine sS (fv z3.val) (qL 3 g3 0 4 27 27 (fcs z3.val) rfl Try.underlying27) <| sS (fv z24.val) (qL 9 g12 0 4 27 27 (fcs z24.val) rfl Try.underlying27) ?_
          obtain ⟨z26, hz26⟩ : ∃ z : Fp, z = z3 * z24 := ⟨_, rfl⟩
          refine sS (fv z26.val) (qF 49 #[fv z3.val, fv z24.val] (by rw [hz26]; exact mul_c z3 z24)) <| sW 3 g3 27 (fcs z3.val) (fcs z26.val) (wS 0 27 (fcs z26.val) rfl) ?_
          refine sA ?_
          refine sM 62 (tcs 0 0 0) (fun g14 => ?_)
          refine sH (fun j => j == 10) ?_
          refine sD 0 rfl (fv z8.val) (qL 8 g8 0 4 27 27 (fcs z8.val) rfl Try.underlying27) <| sD 1 rfl (fv z8.val) (qL 8 g8 0 4 27 27 (fcs z8.val) rfl Try.underlying27) ?_
          obtain ⟨z27, hz27⟩ : ∃ z : Fp, z = z8 * z8 := ⟨_, rfl⟩
          refine sD 2 rfl (fv z27.val) (qF 49 #[fv z8.val, fv z8.val] (by rw [hz27]; exact mul_c z8 z8)) <| sD 3 rfl (fv z25.val) (qL 10 g13 0 4 27 27 (fcs z25.val) rfl Try.underlying27) ?_
          obtain ⟨z28, hz28⟩ : ∃ z : Fp, z = z27 - z25 := ⟨_, rfl⟩
          refine sD 4 rfl (fv z28.val) (qF 48 #[fv z27.val, fv z25.val] (by rw [hz28]; exact sub_c z27 z25)) <| sD 5 rfl (fv z26.val) (qL 3 g3 0 4 27 27 (fcs z26.val) rfl Try.underlying27) <| sD 6 rfl (fv z26.val) (qL 3 g3 0 4 27 27 (fcs z26.val) rfl Try.underlying27) ?_
          obtain ⟨z29, hz29⟩ : ∃ z : Fp, z = z26 + z26 := ⟨_, rfl⟩
          refine sD 7 rfl (fv z29.val) (qF 54 #[fv z26.val, fv z26.val] (by rw [hz29]; exact add_c z26 z26)) ?_
          obtain ⟨z30, hz30⟩ : ∃ z : Fp, z = z28 - z29 := ⟨_, rfl⟩
          refine sD 8 rfl (fv z30.val) (qF 48 #[fv z28.val, fv z29.val] (by rw [hz30]; exact sub_c z28 z29)) <| sZ 9 rfl (.pointer (some ⟨g14, 0, none⟩)) <| sX 10 rfl 11 g14 62 (tcs 0 0 0) (tcs z30.val 0 0) (wS 0 27 (fcs z30.val) rfl) ?_
          refine sE ?_
          refine sR (fun j => j == 11) ?_
          refine sD 0 rfl (fv z8.val) (qL 8 g8 0 4 27 27 (fcs z8.val) rfl Try.underlying27) <| sD 1 rfl (fv z26.val) (qL 3 g3 0 4 27 27 (fcs z26.val) rfl Try.underlying27) <| sZ 2 rfl (.pointer (some ⟨g14, 0, none⟩)) <| sD 3 rfl (fv z30.val) (qL 11 g14 0 4 62 27 (tcs z30.val 0 0) rfl Try.underlying27) ?_
          obtain ⟨z31, hz31⟩ : ∃ z : Fp, z = z26 - z30 := ⟨_, rfl⟩
          refine sD 4 rfl (fv z31.val) (qF 48 #[fv z26.val, fv z30.val] (by rw [hz31]; exact sub_c z26 z30)) ?_
          obtain ⟨z32, hz32⟩ : ∃ z : Fp, z = z8 * z31 := ⟨_, rfl⟩
          refine sD 5 rfl (fv z32.val) (qF 49 #[fv z8.val, fv z31.val] (by rw [hz32]; exact mul_c z8 z31)) <| sD 6 rfl (fv z4.val) (qL 4 g4 0 4 27 27 (fcs z4.val) rfl Try.underlying27) <| sD 7 rfl (fv z25.val) (qL 10 g13 0 4 27 27 (fcs z25.val) rfl Try.underlying27) ?_
          obtain ⟨z33, hz33⟩ : ∃ z : Fp, z = z4 * z25 := ⟨_, rfl⟩
          refine sD 8 rfl (fv z33.val) (qF 49 #[fv z4.val, fv z25.val] (by rw [hz33]; exact mul_c z4 z25)) ?_
          obtain ⟨z34, hz34⟩ : ∃ z : Fp, z = z32 - z33 := ⟨_, rfl⟩
          refine sD 9 rfl (fv z34.val) (qF 48 #[fv z32.val, fv z33.val] (by rw [hz34]; exact sub_c z32 z33)) <| sZ 10 rfl (.pointer (some ⟨g14, 4, none⟩)) <| sX 11 rfl 11 g14 62 (tcs z30.val 0 0) (tcs z30.val z34.val 0) (wS 4 27 (fcs z34.val) rfl) ?_
          refine sE ?_
          refine sR (fun j => j == 8) ?_
          refine sZ 0 rfl (.pointer (some ⟨g0, 8, none⟩)) <| sD 1 rfl (fv a.z.val) (qL 0 g0 8 4 62 27 (tcs a.x.val a.y.val a.z.val) rfl Try.underlying27) <| sZ 2 rfl (.pointer (some ⟨g1, 8, none⟩)) <| sD 3 rfl (fv b.z.val) (qL 1 g1 8 4 62 27 (tcs b.x.val b.y.val b.z.val) rfl Try.underlying27) ?_
          obtain ⟨z35, hz35⟩ : ∃ z : Fp, z = a.z * b.z := ⟨_, rfl⟩
          refine sD 4 rfl (fv z35.val) (qF 49 #[fv a.z.val, fv b.z.val] (by rw [hz35]; exact mul_c a.z b.z)) <| sD 5 rfl (fv z7.val) (qL 7 g7 0 4 27 27 (fcs z7.val) rfl Try.underlying27) ?_
          obtain ⟨z36, hz36⟩ : ∃ z : Fp, z = z35 * z7 := ⟨_, rfl⟩
          refine sD 6 rfl (fv z36.val) (qF 49 #[fv z35.val, fv z7.val] (by rw [hz36]; exact mul_c z35 z7)) <| sZ 7 rfl (.pointer (some ⟨g14, 8, none⟩)) <| sX 8 rfl 11 g14 62 (tcs z30.val z34.val 0) (tcs z30.val z34.val z36.val) (wS 8 27 (fcs z36.val) rfl) ?_
          refine sE ?_
          refine sB ?_
          refine sS (tv z30.val z34.val z36.val) (qL 11 g14 0 12 62 62 (tcs z30.val z34.val z36.val) rfl Try.underlying62) <| sW 2 g2 62 (tcs 0 0 0) (tcs z30.val z34.val z36.val) (wS 0 62 (tcs z30.val z34.val z36.val) rfl) ?_
          refine sG ?_
          refine Sy.ret ?_
          rw [show (tv (addJ a b).x.val (addJ a b).y.val (addJ a b).z.val : Value) = tv z30.val z34.val z36.val from by
            rw [addJ_4 eb1 eb2 (fun k => eb4 (by rw [hz8, hz4, hz6]; exact k.2))]
            simp only [hz36, hz35, hz34, hz33, hz32, hz31, hz30, hz29, hz28, hz27, hz26, hz25, hz24, hz8, hz7, hz6, hz5, hz4, hz3]
            rfl]
          exact rC (v := tv z30.val z34.val z36.val) 62 g2 2 (tcs z30.val z34.val z36.val) rfl Try.underlying62
        · have eb4 : z8 = 0 := (Fin.ext (of_decide_eq_true hb4.symm)).trans hz23
          refine sT ?_
          refine sC ?_
          refine sS (tv a.x.val a.y.val a.z.val) (qL 0 g0 0 12 62 62 (tcs a.x.val a.y.val a.z.val) rfl Try.underlying62) <| sS (tv ((dblJ a).x.val) ((dblJ a).y.val) ((dblJ a).z.val)) (qF 53 #[tv a.x.val a.y.val a.z.val] (fun w => double_c w a)) <| sW 2 g2 62 (tcs 0 0 0) (tcs ((dblJ a).x.val) ((dblJ a).y.val) ((dblJ a).z.val)) (wS 0 62 (tcs ((dblJ a).x.val) ((dblJ a).y.val) ((dblJ a).z.val)) rfl) ?_
          refine sG ?_
          refine Sy.ret ?_
          refine Sy.then_ret ?_
          rw [show (tv (addJ a b).x.val (addJ a b).y.val (addJ a b).z.val : Value) = tv ((dblJ a).x.val) ((dblJ a).y.val) ((dblJ a).z.val) from by rw [addJ_3 eb1 eb2 (by rw [← eb3, hz7, hz3, hz5]; rfl) (by rw [← eb4, hz8, hz4, hz6]; rfl)]]
          exact rC (v := tv ((dblJ a).x.val) ((dblJ a).y.val) ((dblJ a).z.val)) 62 g2 2 (tcs ((dblJ a).x.val) ((dblJ a).y.val) ((dblJ a).z.val)) rfl Try.underlying62
    · have eb2 : b.z = 0 := (Fin.ext (of_decide_eq_true hb2.symm)).trans hz2
      refine sT ?_
      refine sC ?_
      refine sS (tv a.x.val a.y.val a.z.val) (qL 0 g0 0 12 62 62 (tcs a.x.val a.y.val a.z.val) rfl Try.underlying62) <| sW 2 g2 62 (tcs 0 0 0) (tcs a.x.val a.y.val a.z.val) (wS 0 62 (tcs a.x.val a.y.val a.z.val) rfl) ?_
      refine sG ?_
      refine Sy.ret ?_
      refine Sy.then_ret ?_
      rw [show (tv (addJ a b).x.val (addJ a b).y.val (addJ a b).z.val : Value) = tv a.x.val a.y.val a.z.val from by rw [addJ_2 eb1 eb2]]
      exact rC (v := tv a.x.val a.y.val a.z.val) 62 g2 2 (tcs a.x.val a.y.val a.z.val) rfl Try.underlying62
  · have eb1 : a.z = 0 := (Fin.ext (of_decide_eq_true hb1.symm)).trans hz1
    refine sT ?_
    refine sC ?_
    refine sS (tv b.x.val b.y.val b.z.val) (qL 1 g1 0 12 62 62 (tcs b.x.val b.y.val b.z.val) rfl Try.underlying62) <| sW 2 g2 62 (tcs 0 0 0) (tcs b.x.val b.y.val b.z.val) (wS 0 62 (tcs b.x.val b.y.val b.z.val) rfl) ?_
    refine sG ?_
    refine Sy.ret ?_
    refine Sy.then_ret ?_
    rw [show (tv (addJ a b).x.val (addJ a b).y.val (addJ a b).z.val : Value) = tv b.x.val b.y.val b.z.val from by rw [addJ_1 eb1]]
    exact rC (v := tv b.x.val b.y.val b.z.val) 62 g2 2 (tcs b.x.val b.y.val b.z.val) rfl Try.underlying62
end Go.Proofs.Ytbofhoonlmikcaa.Cu

end
section
namespace Go.Proofs.Ytbofhoonlmikcaa.Cu
open Go.RowKit Go.Proofs.Ytbofhoonlmikcaa Go.Proofs.Ytbofhoonlmikcaa.Sy
set_option maxRecDepth 100000
set_option maxHeartbeats 4000000

/-- a point as three numbers -/
def threeJ : Pt → J
  | none => ⟨0, 0, 0⟩
  | some (x, y) => ⟨x, y, 1⟩
theorem threeJ_rep : ∀ P : Pt, Ec.Rep (threeJ P) P
  | none => rfl
  | some (x, y) => by
    refine ⟨(by decide +kernel : (1 : Fp) ≠ 0), ?_, ?_⟩
    · show x = x * (1 * 1)
      grobner
    · show y = y * (1 * 1 * 1)
      grobner
/-- what three numbers stand for -/
def ptJ (a : J) : Pt := if a.z = 0 then none else some (a.x * (finv a.z * finv a.z), a.y * (finv a.z * finv a.z * finv a.z))
theorem ptJ_rep {a : J} {P : Pt} (h : Ec.Rep a P) : ptJ a = P := by
  rcases Ec.rep_point fld h with ⟨h1, h2⟩ | ⟨h1, h2⟩
  · unfold ptJ; rw [if_pos h1, h2]
  · unfold ptJ; rw [if_neg h1, h2]
theorem three_n (w : World)  : Calls Try.prog 78 #[pv 0 0 true] w (Gets w (tv 0 0 0)) := by
  refine Sy.enter (args := [pv 0 0 true]) Try.func78 rfl kL ?_
  refine sC ?_
  refine sM 29 (pcs 0 0 true) (fun g0 => ?_)
  refine sM 62 (tcs 0 0 0) (fun g1 => ?_)
  refine sG ?_
  refine Sy.seq ?_
  refine Sy.seq ?_
  refine Sy.regionD (fun j => false) kR ?_
  refine sD 0 rfl (pv 0 0 true) (qL 0 g0 0 9 29 29 (pcs 0 0 true) rfl Try.underlying29) <| sD 1 rfl (pv 0 0 true) (qF 28 #[] (zero_c)) <| sD 2 rfl (.bool true) (Quiet.pure (fun w => eql_pt w _ _ _ _ 0 0 true 0 0 true rfl rfl rfl (by decide) (by decide) (by decide) (by decide))) ?_
  refine sI ?_
  refine sT ?_
  refine sC ?_
  refine sP (tv 0 0 0) <| sW 1 g1 62 (tcs 0 0 0) (tcs 0 0 0) (wS 0 62 (tcs 0 0 0) rfl) ?_
  refine sG ?_
  refine Sy.ret ?_
  refine Sy.then_ret ?_
  exact rC (v := tv 0 0 0) 62 g1 1 (tcs 0 0 0) rfl Try.underlying62
theorem three_s (w : World) (u v : Fp) : Calls Try.prog 78 #[pv u.val v.val false] w (Gets w (tv u.val v.val (1 : Fp).val)) := by
  refine Sy.enter (args := [pv u.val v.val false]) Try.func78 rfl kL ?_
  refine sC ?_
  refine sM 29 (pcs u.val v.val false) (fun g0 => ?_)
  refine sM 62 (tcs 0 0 0) (fun g1 => ?_)
  refine sG ?_
  refine Sy.seq ?_
  refine Sy.seq ?_
  refine Sy.regionD (fun j => false) kR ?_
  refine sD 0 rfl (pv u.val v.val false) (qL 0 g0 0 9 29 29 (pcs u.val v.val false) rfl Try.underlying29) <| sD 1 rfl (pv 0 0 true) (qF 28 #[] (zero_c)) <| sD 2 rfl (.bool false) (Quiet.pure (fun w => eql_pt_ne w _ _ _ _ _ _ _ _ _ _ rfl rfl rfl lK lK lK lK (by decide))) ?_
  refine sI ?_
  refine sU ?_
  refine Sy.skip ?_
  refine sR (fun j => j == 6) ?_
  refine sZ 0 rfl (.pointer (some ⟨g0, 0, none⟩)) <| sD 1 rfl (fv u.val) (qL 0 g0 0 4 29 27 (pcs u.val v.val false) rfl Try.underlying27) <| sZ 2 rfl (.pointer (some ⟨g0, 4, none⟩)) <| sD 3 rfl (fv v.val) (qL 0 g0 4 4 29 27 (pcs u.val v.val false) rfl Try.underlying27) ?_
  obtain ⟨z1, hz1⟩ : ∃ z : Fp, z = (1 : Fp) := ⟨_, rfl⟩
  refine sD 4 rfl (fv z1.val) (qF 51 #[.int .u64 1] (fun w => by rw [hz1]; exact of_c 1 (by decide +kernel) (by decide) w)) <| sZ 5 rfl (tv u.val v.val z1.val) <| sX 6 rfl 1 g1 62 (tcs 0 0 0) (tcs u.val v.val z1.val) (wS 0 62 (tcs u.val v.val z1.val) rfl) ?_
  refine sI ?_
  refine Sy.ret ?_
  rw [show (tv u.val v.val (1 : Fp).val : Value) = tv u.val v.val z1.val from by rw [hz1]]
  exact rC (v := tv u.val v.val z1.val) 62 g1 1 (tcs u.val v.val z1.val) rfl Try.underlying62
/-- every three -/
theorem three_c (w : World) (P : Pt) : Calls Try.prog 78 #[ptv P] w (Gets w (jv (threeJ P))) := by
  rcases P with _ | ⟨u, v⟩
  · exact three_n w
  · exact three_s w u v
theorem point_c (w : World) (a : J) : Calls Try.prog 35 #[tv a.x.val a.y.val a.z.val] w (Gets w (ptv (ptJ a))) := by
  refine Sy.enter (args := [tv a.x.val a.y.val a.z.val]) Try.func35 rfl kL ?_
  refine sC ?_
  refine sM 62 (tcs a.x.val a.y.val a.z.val) (fun g0 => ?_)
  refine sM 29 (pcs 0 0 false) (fun g1 => ?_)
  refine sG ?_
  refine Sy.seq ?_
  refine Sy.seq ?_
  refine Sy.regionD (fun j => false) kR ?_
  refine sZ 0 rfl (.pointer (some ⟨g0, 8, none⟩)) <| sD 1 rfl (fv a.z.val) (qL 0 g0 8 4 62 27 (tcs a.x.val a.y.val a.z.val) rfl Try.underlying27) ?_
  obtain ⟨z1, hz1⟩ : ∃ z : Fp, z = (0 : Fp) := ⟨_, rfl⟩
  refine sD 2 rfl (fv z1.val) (qF 51 #[.int .u64 0] (fun w => by rw [hz1]; exact of_c 0 (by decide +kernel) (by decide) w)) ?_
  obtain ⟨b1, hb1⟩ : ∃ z : Bool, z = decide (a.z.val = z1.val) := ⟨_, rfl⟩
  refine sD 3 rfl (.bool b1) (Quiet.pure (fun w => by rw [hb1]; exact eql_fe w _ _ _ _ _ _ rfl rfl rfl lK lK)) ?_
  refine sI ?_
  cases b1
  · have eb1 : a.z ≠ 0 := fun e => of_decide_eq_false hb1.symm (by rw [e, hz1])
    refine sU ?_
    refine Sy.skip ?_
    refine sB ?_
    refine sP (.pointer (some ⟨g0, 8, none⟩)) <| sS (fv a.z.val) (qL 0 g0 8 4 62 27 (tcs a.x.val a.y.val a.z.val) rfl Try.underlying27) ?_
    obtain ⟨z2, hz2⟩ : ∃ z : Fp, z = finv a.z := ⟨_, rfl⟩
    refine sS (fv z2.val) (qF 58 #[fv a.z.val] (by rw [hz2]; exact inv_c a.z)) ?_
    refine sM 27 (fcs 0) (fun g2 => ?_)
    refine sW 2 g2 27 (fcs 0) (fcs z2.val) (wS 0 27 (fcs z2.val) rfl) ?_
    refine sA ?_
    refine sS (fv z2.val) (qL 2 g2 0 4 27 27 (fcs z2.val) rfl Try.underlying27) <| sS (fv z2.val) (qL 2 g2 0 4 27 27 (fcs z2.val) rfl Try.underlying27) ?_
    obtain ⟨z3, hz3⟩ : ∃ z : Fp, z = z2 * z2 := ⟨_, rfl⟩
    refine sS (fv z3.val) (qF 49 #[fv z2.val, fv z2.val] (by rw [hz3]; exact mul_c z2 z2)) ?_
    refine sM 27 (fcs 0) (fun g3 => ?_)
    refine sW 3 g3 27 (fcs 0) (fcs z3.val) (wS 0 27 (fcs z3.val) rfl) ?_
    refine sH (fun j => j == 11) ?_
    refine sZ 0 rfl (.pointer (some ⟨g0, 0, none⟩)) <| sD 1 rfl (fv a.x.val) (qL 0 g0 0 4 62 27 (tcs a.x.val a.y.val a.z.val) rfl Try.underlying27) <| sD 2 rfl (fv z3.val) (qL 3 g3 0 4 27 27 (fcs z3.val) rfl Try.underlying27) ?_
    obtain ⟨z4, hz4⟩ : ∃ z : Fp, z = a.x * z3 := ⟨_, rfl⟩
    refine sD 3 rfl (fv z4.val) (qF 49 #[fv a.x.val, fv z3.val] (by rw [hz4]; exact mul_c a.x z3)) <| sZ 4 rfl (.pointer (some ⟨g0, 4, none⟩)) <| sD 5 rfl (fv a.y.val) (qL 0 g0 4 4 62 27 (tcs a.x.val a.y.val a.z.val) rfl Try.underlying27) <| sD 6 rfl (fv z3.val) (qL 3 g3 0 4 27 27 (fcs z3.val) rfl Try.underlying27) <| sD 7 rfl (fv z2.val) (qL 2 g2 0 4 27 27 (fcs z2.val) rfl Try.underlying27) ?_
    obtain ⟨z5, hz5⟩ : ∃ z : Fp, z = z3 * z2 := ⟨_, rfl⟩
    refine sD 8 rfl (fv z5.val) (qF 49 #[fv z3.val, fv z2.val] (by rw [hz5]; exact mul_c z3 z2)) ?_
    obtain ⟨z6, hz6⟩ : ∃ z : Fp, z = a.y * z5 := ⟨_, rfl⟩
    refine sD 9 rfl (fv z6.val) (qF 49 #[fv a.y.val, fv z5.val] (by rw [hz6]; exact mul_c a.y z5)) <| sZ 10 rfl (pv z4.val z6.val false) <| sX 11 rfl 1 g1 29 (pcs 0 0 false) (pcs z4.val z6.val false) (wS 0 29 (pcs z4.val z6.val false) rfl) ?_
    refine sI ?_
    refine Sy.ret ?_
    rw [show (ptv (ptJ a) : Value) = pv z4.val z6.val false from by unfold ptJ; rw [if_neg eb1]; unfold ptv; simp only [hz6, hz5, hz4, hz3, hz2]]
    exact rC (v := pv z4.val z6.val false) 29 g1 1 (pcs z4.val z6.val false) rfl Try.underlying29
  · have eb1 : a.z = 0 := (Fin.ext (of_decide_eq_true hb1.symm)).trans hz1
    refine sT ?_
    refine sC ?_
    refine sS (pv 0 0 true) (qF 28 #[] (zero_c)) <| sW 1 g1 29 (pcs 0 0 false) (pcs 0 0 true) (wS 0 29 (pcs 0 0 true) rfl) ?_
    refine sG ?_
    refine Sy.ret ?_
    refine Sy.then_ret ?_
    rw [show (ptv (ptJ a) : Value) = pv 0 0 true from by unfold ptJ; rw [if_pos eb1]; rfl]
    exact rC (v := pv 0 0 true) 29 g1 1 (pcs 0 0 true) rfl Try.underlying29
end Go.Proofs.Ytbofhoonlmikcaa.Cu

end
section
namespace Go.Proofs.Ytbofhoonlmikcaa
open Go.RowKit Go.Lib

/-- the modulus p as the document has it, and what it lacks -/
def modV : Value := .agg #[.int .u64 18446744069414583343, .int .u64 18446744073709551615, .int .u64 18446744073709551615, .int .u64 18446744073709551615, .int .u64 4294968273, .int .u64 0, .int .u64 0]
theorem fv_P : fv 115792089237316195423570985008687907853269984665640564039457584007908834671663 = .agg #[.int .u64 18446744069414583343, .int .u64 18446744073709551615, .int .u64 18446744073709551615, .int .u64 18446744073709551615] := rfl

theorem refP_any (w : World) : Calls Try.prog 25 #[] w fun e w' => e = .returned modV ∧ Below w.heap.size w w' := by
  go_enter Try.func25, Try.ntmps25
  go_wp2
  exact bodyPost_ret (results_cell_row rfl _ _ w.heap.size _ _ (0, 0) _ rfl (heap_alloc_new w _) Try.underlying49 rfl (by kernel_rfl)) rfl ⟨rfl, (Below.refl _ _).alloc (Nat.le_refl _) _⟩
theorem refOf_any (w : World) (n : Nat) (hn : n < 115792089237316195423570985008687907853269984665640564039457584007913129639936) : Calls Try.prog 21 #[fv n] w fun e w' => e = .returned (fv n) ∧ Below w.heap.size w w' := by
  obtain ⟨a, b, c, d, fn⟩ := words_fv n hn
  rw [fn]
  clear fn
  go_enter Try.func21, Try.ntmps21
  go_wp2
  exact bodyPost_ret (results_cell_row rfl _ _ (w.heap.size + 1) _ _ (0, 0) _ rfl (heap_alloc2_new w _ _) Try.underlying45 rfl (by kernel_rfl)) rfl ⟨rfl, below_alloc2 w _ _⟩
theorem refFe_any (w : World) (n : Nat) (hn : n < 115792089237316195423570985008687907853269984665640564039457584007913129639936) : Calls Try.prog 44 #[fv n] w fun e w' => e = .returned (fv n) ∧ Below w.heap.size w w' := by
  obtain ⟨a, b, c, d, fn⟩ := words_fv n hn
  rw [fn]
  clear fn
  go_enter Try.func44, Try.ntmps44
  go_wp2
  exact bodyPost_ret (results_cell_row rfl _ _ (w.heap.size + 1) _ _ (0, 0) _ rfl (heap_alloc2_new w _ _) Try.underlying27 rfl (by kernel_rfl)) rfl ⟨rfl, below_alloc2 w _ _⟩

set_option maxHeartbeats 8000000 in
set_option maxRecDepth 100000 in
theorem below_at {v1 v2 : Value} (w : World) (x y : Nat) (h1 : fv x = v1) (h2 : fv y = v2) (hx : x < 115792089237316195423570985008687907853269984665640564039457584007913129639936) (hy : y < 115792089237316195423570985008687907853269984665640564039457584007913129639936) : Calls Try.prog 37 #[v1, v2] w fun e w' => e = .returned (.bool (decide (x < y))) ∧ Below w.heap.size w w' := by
  subst h1 h2
  obtain ⟨x0, x1, x2, x3, a0, a1, a2, a3, ex, fx⟩ := words_of x hx
  obtain ⟨y0, y1, y2, y3, b0, b1, b2, b3, ey, fy⟩ := words_of y hy
  obtain ⟨r, hr⟩ : ∃ r, r = decide (x < y) := ⟨_, rfl⟩
  have t3 : x3 ≠ y3 → r = decide ((x3 : Int) < (y3 : Int)) := fun h => by rw [hr]; congr 1; simp only [eq_iff_iff]; omega
  have t2 : x3 = y3 → x2 ≠ y2 → r = decide ((x2 : Int) < (y2 : Int)) := fun _ h => by rw [hr]; congr 1; simp only [eq_iff_iff]; omega
  have t1 : x3 = y3 → x2 = y2 → x1 ≠ y1 → r = decide ((x1 : Int) < (y1 : Int)) := fun _ _ h => by rw [hr]; congr 1; simp only [eq_iff_iff]; omega
  have t0 : x3 = y3 → x2 = y2 → x1 = y1 → x0 ≠ y0 → r = decide ((x0 : Int) < (y0 : Int)) := fun _ _ _ h => by rw [hr]; congr 1; simp only [eq_iff_iff]; omega
  have te : x3 = y3 → x2 = y2 → x1 = y1 → x0 = y0 → r = false := fun _ _ _ _ => by rw [hr]; simp only [decide_eq_false_iff_not]; omega
  have HT := Lib.hid (And.intro t3 (And.intro t2 (And.intro t1 (And.intro t0 te))))
  rw [fx, fy, ← hr]
  clear fx fy ex ey hx hy a0 a1 a2 a3 b0 b1 b2 b3 hr t3 t2 t1 t0 te
  go_enter Try.func37, Try.ntmps37
  go_wp2_with fail
  go_loopw [5] (fun i wr => Below w.heap.size w wr ∧ Blk wr w.heap.size 45 #[.int .u64 (x0 : Int), .int .u64 (x1 : Int), .int .u64 (x2 : Int), .int .u64 (x3 : Int)] ∧ Blk wr (w.heap.size + 1) 45 #[.int .u64 (y0 : Int), .int .u64 (y1 : Int), .int .u64 (y2 : Int), .int .u64 (y3 : Int)] ∧ Hid ((i = .int .i64 3) ∨ (i = .int .i64 2 ∧ x3 = y3) ∨ (i = .int .i64 1 ∧ x3 = y3 ∧ x2 = y2) ∨ (i = .int .i64 0 ∧ x3 = y3 ∧ x2 = y2 ∧ x1 = y1) ∨ (i = .int .i64 (-1) ∧ x3 = y3 ∧ x2 = y2 ∧ x1 = y1 ∧ x0 = y0))) (fun i _ => (intOf i + 1).toNat)
  case atStart => exact ⟨below_alloc2 w _ _, (Blk.new w _ _).alloc _, blk_new2 w _ _ _, Lib.hid (.inl rfl)⟩
  case round =>
    obtain ⟨hb, BX, BY, HI⟩ := hrel
    have lX := BX.lt
    have lY := BY.lt
    have qx0 : wr.cell? ⟨w.heap.size, 0, none⟩ = some (.int .u64 (x0 : Int)) := BX.cell 0
    have qy0 : wr.cell? ⟨w.heap.size + 1, 0, none⟩ = some (.int .u64 (y0 : Int)) := BY.cell 0
    have qx1 : wr.cell? ⟨w.heap.size, 1, none⟩ = some (.int .u64 (x1 : Int)) := BX.cell 1
    have qy1 : wr.cell? ⟨w.heap.size + 1, 1, none⟩ = some (.int .u64 (y1 : Int)) := BY.cell 1
    have qx2 : wr.cell? ⟨w.heap.size, 2, none⟩ = some (.int .u64 (x2 : Int)) := BX.cell 2
    have qy2 : wr.cell? ⟨w.heap.size + 1, 2, none⟩ = some (.int .u64 (y2 : Int)) := BY.cell 2
    have qx3 : wr.cell? ⟨w.heap.size, 3, none⟩ = some (.int .u64 (x3 : Int)) := BX.cell 3
    have qy3 : wr.cell? ⟨w.heap.size + 1, 3, none⟩ = some (.int .u64 (y3 : Int)) := BY.cell 3
    rcases HI.out with rfl | ⟨rfl, E⟩ | ⟨rfl, E⟩ | ⟨rfl, E⟩ | ⟨rfl, E⟩
    · have hk : Hid (True) := Lib.hid trivial
      clear HI
      obtain ⟨b, hbd⟩ : ∃ b, b = decide (x3 ≠ y3) := ⟨_, rfl⟩
      have hbb : (!((x3 : Int) == (y3 : Int))) = b := by
        rw [hbd]
        by_cases h : x3 = y3 <;> simp [h] <;> omega
      have HB := Lib.hid hbd
      clear hbd
      go_wp2
      refine wp_region_G (fun _ => false) (by kernel_rfl) ?_
      try simp only [Act.put]
      refine wpAnyG_take 0 rfl (by kernel_rfl) (fun _ _ _ h => h) (YieldsG.pure (by rfl) (fun w9 _ => by go_simp; try with_reducible rfl)) ?_
      try simp only [Act.put, List.setIfInBounds_toArray, List.set_cons_zero, List.set_cons_succ]
      refine wpAnyG_take 1 rfl (by kernel_rfl) (fun _ _ _ h => h) (YieldsG.pure (by rfl) (fun w9 _ => by go_simp; try with_reducible rfl)) ?_
      try simp only [Act.put, List.setIfInBounds_toArray, List.set_cons_zero, List.set_cons_succ]
      refine wpAnyG_take 2 rfl (by kernel_rfl) (fun _ _ _ h => h) (YieldsG.pure (v := .int .u64 (x3 : Int)) (by rfl) (fun w9 h9 => by have hz := (Below.cell (p := ⟨w.heap.size, 3, none⟩) h9 lX).trans qx3; go_simp; first | done | simp [hz])) ?_
      try simp only [Act.put, List.setIfInBounds_toArray, List.set_cons_zero, List.set_cons_succ]
      refine wpAnyG_take 3 rfl (by kernel_rfl) (fun _ _ _ h => h) (YieldsG.pure (by rfl) (fun w9 _ => by go_simp; try with_reducible rfl)) ?_
      try simp only [Act.put, List.setIfInBounds_toArray, List.set_cons_zero, List.set_cons_succ]
      refine wpAnyG_take 4 rfl (by kernel_rfl) (fun _ _ _ h => h) (YieldsG.pure (by rfl) (fun w9 _ => by go_simp; try with_reducible rfl)) ?_
      try simp only [Act.put, List.setIfInBounds_toArray, List.set_cons_zero, List.set_cons_succ]
      refine wpAnyG_take 5 rfl (by kernel_rfl) (fun _ _ _ h => h) (YieldsG.pure (v := .int .u64 (y3 : Int)) (by rfl) (fun w9 h9 => by have hz := (Below.cell (p := ⟨w.heap.size + 1, 3, none⟩) h9 lY).trans qy3; go_simp; first | done | simp [hz])) ?_
      try simp only [Act.put, List.setIfInBounds_toArray, List.set_cons_zero, List.set_cons_succ]
      refine wpAnyG_take 6 rfl (by kernel_rfl) (fun _ _ _ h => h) (YieldsG.pure (v := .bool b) (by rfl) (fun w9 h9 => by go_simp; congr 3; all_goals (rw [HB.out]; all_goals (by_cases h : x3 = y3 <;> simp [h] <;> omega)))) ?_
      try simp only [Act.put, List.setIfInBounds_toArray, List.set_cons_zero, List.set_cons_succ]
      refine wpAnyG_done (by kernel_rfl) (fun u hu => ?_)
      have hbu := Below.gr hb hu
      have BXu := Gr.blk hu BX
      have BYu := Gr.blk hu BY
      cases b
      · have hxy : x3 = y3 := by
          have := HB.out
          simpa using this
        have HXY := Lib.hid hxy
        clear hxy
        go_wp2
        exact ⟨⟨hbu, BXu, BYu, Lib.hid (.inr (.inl ⟨rfl, HXY.out⟩))⟩, by decide⟩
      · have hxy : x3 ≠ y3 := by
          have := HB.out
          simpa using this
        have hr2 := Lib.hid (HT.out.1 hxy)
        have lXu := BXu.lt
        have lYu := BYu.lt
        have px : u.cell? ⟨w.heap.size, 3, none⟩ = some (.int .u64 (x3 : Int)) := BXu.cell 3
        have py : u.cell? ⟨w.heap.size + 1, 3, none⟩ = some (.int .u64 (y3 : Int)) := BYu.cell 3
        clear hxy hk HT
        go_wp2
        refine wp_region_G (fun _ => false) (by kernel_rfl) ?_
        try simp only [Act.put]
        refine wpAnyG_take 0 rfl (by kernel_rfl) (fun _ _ _ h => h) (YieldsG.pure (by rfl) (fun w9 _ => by go_simp; try with_reducible rfl)) ?_
        try simp only [Act.put, List.setIfInBounds_toArray, List.set_cons_zero, List.set_cons_succ]
        refine wpAnyG_take 1 rfl (by kernel_rfl) (fun _ _ _ h => h) (YieldsG.pure (by rfl) (fun w9 _ => by go_simp; try with_reducible rfl)) ?_
        try simp only [Act.put, List.setIfInBounds_toArray, List.set_cons_zero, List.set_cons_succ]
        refine wpAnyG_take 2 rfl (by kernel_rfl) (fun _ _ _ h => h) (YieldsG.pure (v := .int .u64 (x3 : Int)) (by rfl) (fun w9 h9 => by have hz := (Below.cell (p := ⟨w.heap.size, 3, none⟩) h9 lXu).trans px; go_simp; first | done | simp [hz])) ?_
        try simp only [Act.put, List.setIfInBounds_toArray, List.set_cons_zero, List.set_cons_succ]
        refine wpAnyG_take 3 rfl (by kernel_rfl) (fun _ _ _ h => h) (YieldsG.pure (by rfl) (fun w9 _ => by go_simp; try with_reducible rfl)) ?_
        try simp only [Act.put, List.setIfInBounds_toArray, List.set_cons_zero, List.set_cons_succ]
        refine wpAnyG_take 4 rfl (by kernel_rfl) (fun _ _ _ h => h) (YieldsG.pure (by rfl) (fun w9 _ => by go_simp; try with_reducible rfl)) ?_
        try simp only [Act.put, List.setIfInBounds_toArray, List.set_cons_zero, List.set_cons_succ]
        refine wpAnyG_take 5 rfl (by kernel_rfl) (fun _ _ _ h => h) (YieldsG.pure (v := .int .u64 (y3 : Int)) (by rfl) (fun w9 h9 => by have hz := (Below.cell (p := ⟨w.heap.size + 1, 3, none⟩) h9 lYu).trans py; go_simp; first | done | simp [hz])) ?_
        try simp only [Act.put, List.setIfInBounds_toArray, List.set_cons_zero, List.set_cons_succ]
        refine wpAnyG_take 6 rfl (by kernel_rfl) (fun _ _ _ h => h) (YieldsG.pure (v := .bool r) (by rfl) (fun w9 h9 => by go_simp; congr 3; rw [hr2.out]; all_goals (apply decide_eq_decide.2; omega))) ?_
        try simp only [Act.put, List.setIfInBounds_toArray, List.set_cons_zero, List.set_cons_succ]
        refine wpAnyG_take 7 rfl (by kernel_rfl) (fun _ _ _ h => h) (YieldsG.pure (by rfl) (fun w9 _ => by go_simp; try with_reducible rfl)) ?_
        try simp only [Act.put, List.setIfInBounds_toArray, List.set_cons_zero, List.set_cons_succ]
        refine wpAnyG_done (by kernel_rfl) (fun u2 hu2 => ?_)
        go_wp2
        go_ret
        exact ⟨rfl, Below.gr hbu hu2⟩
    · have hk : Hid (x3 = y3) := Lib.hid E
      clear HI E
      obtain ⟨b, hbd⟩ : ∃ b, b = decide (x2 ≠ y2) := ⟨_, rfl⟩
      have hbb : (!((x2 : Int) == (y2 : Int))) = b := by
        rw [hbd]
        by_cases h : x2 = y2 <;> simp [h] <;> omega
      have HB := Lib.hid hbd
      clear hbd
      go_wp2
      refine wp_region_G (fun _ => false) (by kernel_rfl) ?_
      try simp only [Act.put]
      refine wpAnyG_take 0 rfl (by kernel_rfl) (fun _ _ _ h => h) (YieldsG.pure (by rfl) (fun w9 _ => by go_simp; try with_reducible rfl)) ?_
      try simp only [Act.put, List.setIfInBounds_toArray, List.set_cons_zero, List.set_cons_succ]
      refine wpAnyG_take 1 rfl (by kernel_rfl) (fun _ _ _ h => h) (YieldsG.pure (by rfl) (fun w9 _ => by go_simp; try with_reducible rfl)) ?_
      try simp only [Act.put, List.setIfInBounds_toArray, List.set_cons_zero, List.set_cons_succ]
      refine wpAnyG_take 2 rfl (by kernel_rfl) (fun _ _ _ h => h) (YieldsG.pure (v := .int .u64 (x2 : Int)) (by rfl) (fun w9 h9 => by have hz := (Below.cell (p := ⟨w.heap.size, 2, none⟩) h9 lX).trans qx2; go_simp; first | done | simp [hz])) ?_
      try simp only [Act.put, List.setIfInBounds_toArray, List.set_cons_zero, List.set_cons_succ]
      refine wpAnyG_take 3 rfl (by kernel_rfl) (fun _ _ _ h => h) (YieldsG.pure (by rfl) (fun w9 _ => by go_simp; try with_reducible rfl)) ?_
      try simp only [Act.put, List.setIfInBounds_toArray, List.set_cons_zero, List.set_cons_succ]
      refine wpAnyG_take 4 rfl (by kernel_rfl) (fun _ _ _ h => h) (YieldsG.pure (by rfl) (fun w9 _ => by go_simp; try with_reducible rfl)) ?_
      try simp only [Act.put, List.setIfInBounds_toArray, List.set_cons_zero, List.set_cons_succ]
      refine wpAnyG_take 5 rfl (by kernel_rfl) (fun _ _ _ h => h) (YieldsG.pure (v := .int .u64 (y2 : Int)) (by rfl) (fun w9 h9 => by have hz := (Below.cell (p := ⟨w.heap.size + 1, 2, none⟩) h9 lY).trans qy2; go_simp; first | done | simp [hz])) ?_
      try simp only [Act.put, List.setIfInBounds_toArray, List.set_cons_zero, List.set_cons_succ]
      refine wpAnyG_take 6 rfl (by kernel_rfl) (fun _ _ _ h => h) (YieldsG.pure (v := .bool b) (by rfl) (fun w9 h9 => by go_simp; congr 3; all_goals (rw [HB.out]; all_goals (by_cases h : x2 = y2 <;> simp [h] <;> omega)))) ?_
      try simp only [Act.put, List.setIfInBounds_toArray, List.set_cons_zero, List.set_cons_succ]
      refine wpAnyG_done (by kernel_rfl) (fun u hu => ?_)
      have hbu := Below.gr hb hu
      have BXu := Gr.blk hu BX
      have BYu := Gr.blk hu BY
      cases b
      · have hxy : x2 = y2 := by
          have := HB.out
          simpa using this
        have HXY := Lib.hid hxy
        clear hxy
        go_wp2
        exact ⟨⟨hbu, BXu, BYu, Lib.hid (.inr (.inr (.inl ⟨rfl, hk.out, HXY.out⟩)))⟩, by decide⟩
      · have hxy : x2 ≠ y2 := by
          have := HB.out
          simpa using this
        have hr2 := Lib.hid (HT.out.2.1 hk.out hxy)
        have lXu := BXu.lt
        have lYu := BYu.lt
        have px : u.cell? ⟨w.heap.size, 2, none⟩ = some (.int .u64 (x2 : Int)) := BXu.cell 2
        have py : u.cell? ⟨w.heap.size + 1, 2, none⟩ = some (.int .u64 (y2 : Int)) := BYu.cell 2
        clear hxy hk HT
        go_wp2
        refine wp_region_G (fun _ => false) (by kernel_rfl) ?_
        try simp only [Act.put]
        refine wpAnyG_take 0 rfl (by kernel_rfl) (fun _ _ _ h => h) (YieldsG.pure (by rfl) (fun w9 _ => by go_simp; try with_reducible rfl)) ?_
        try simp only [Act.put, List.setIfInBounds_toArray, List.set_cons_zero, List.set_cons_succ]
        refine wpAnyG_take 1 rfl (by kernel_rfl) (fun _ _ _ h => h) (YieldsG.pure (by rfl) (fun w9 _ => by go_simp; try with_reducible rfl)) ?_
        try simp only [Act.put, List.setIfInBounds_toArray, List.set_cons_zero, List.set_cons_succ]
        refine wpAnyG_take 2 rfl (by kernel_rfl) (fun _ _ _ h => h) (YieldsG.pure (v := .int .u64 (x2 : Int)) (by rfl) (fun w9 h9 => by have hz := (Below.cell (p := ⟨w.heap.size, 2, none⟩) h9 lXu).trans px; go_simp; first | done | simp [hz])) ?_
        try simp only [Act.put, List.setIfInBounds_toArray, List.set_cons_zero, List.set_cons_succ]
        refine wpAnyG_take 3 rfl (by kernel_rfl) (fun _ _ _ h => h) (YieldsG.pure (by rfl) (fun w9 _ => by go_simp; try with_reducible rfl)) ?_
        try simp only [Act.put, List.setIfInBounds_toArray, List.set_cons_zero, List.set_cons_succ]
        refine wpAnyG_take 4 rfl (by kernel_rfl) (fun _ _ _ h => h) (YieldsG.pure (by rfl) (fun w9 _ => by go_simp; try with_reducible rfl)) ?_
        try simp only [Act.put, List.setIfInBounds_toArray, List.set_cons_zero, List.set_cons_succ]
        refine wpAnyG_take 5 rfl (by kernel_rfl) (fun _ _ _ h => h) (YieldsG.pure (v := .int .u64 (y2 : Int)) (by rfl) (fun w9 h9 => by have hz := (Below.cell (p := ⟨w.heap.size + 1, 2, none⟩) h9 lYu).trans py; go_simp; first | done | simp [hz])) ?_
        try simp only [Act.put, List.setIfInBounds_toArray, List.set_cons_zero, List.set_cons_succ]
        refine wpAnyG_take 6 rfl (by kernel_rfl) (fun _ _ _ h => h) (YieldsG.pure (v := .bool r) (by rfl) (fun w9 h9 => by go_simp; congr 3; rw [hr2.out]; all_goals (apply decide_eq_decide.2; omega))) ?_
        try simp only [Act.put, List.setIfInBounds_toArray, List.set_cons_zero, List.set_cons_succ]
        refine wpAnyG_take 7 rfl (by kernel_rfl) (fun _ _ _ h => h) (YieldsG.pure (by rfl) (fun w9 _ => by go_simp; try with_reducible rfl)) ?_
        try simp only [Act.put, List.setIfInBounds_toArray, List.set_cons_zero, List.set_cons_succ]
        refine wpAnyG_done (by kernel_rfl) (fun u2 hu2 => ?_)
        go_wp2
        go_ret
        exact ⟨rfl, Below.gr hbu hu2⟩
    · have hk : Hid (x3 = y3 ∧ x2 = y2) := Lib.hid E
      clear HI E
      obtain ⟨b, hbd⟩ : ∃ b, b = decide (x1 ≠ y1) := ⟨_, rfl⟩
      have hbb : (!((x1 : Int) == (y1 : Int))) = b := by
        rw [hbd]
        by_cases h : x1 = y1 <;> simp [h] <;> omega
      have HB := Lib.hid hbd
      clear hbd
      go_wp2
      refine wp_region_G (fun _ => false) (by kernel_rfl) ?_
      try simp only [Act.put]
      refine wpAnyG_take 0 rfl (by kernel_rfl) (fun _ _ _ h => h) (YieldsG.pure (by rfl) (fun w9 _ => by go_simp; try with_reducible rfl)) ?_
      try simp only [Act.put, List.setIfInBounds_toArray, List.set_cons_zero, List.set_cons_succ]
      refine wpAnyG_take 1 rfl (by kernel_rfl) (fun _ _ _ h => h) (YieldsG.pure (by rfl) (fun w9 _ => by go_simp; try with_reducible rfl)) ?_
      try simp only [Act.put, List.setIfInBounds_toArray, List.set_cons_zero, List.set_cons_succ]
      refine wpAnyG_take 2 rfl (by kernel_rfl) (fun _ _ _ h => h) (YieldsG.pure (v := .int .u64 (x1 : Int)) (by rfl) (fun w9 h9 => by have hz := (Below.cell (p := ⟨w.heap.size, 1, none⟩) h9 lX).trans qx1; go_simp; first | done | simp [hz])) ?_
      try simp only [Act.put, List.setIfInBounds_toArray, List.set_cons_zero, List.set_cons_succ]
      refine wpAnyG_take 3 rfl (by kernel_rfl) (fun _ _ _ h => h) (YieldsG.pure (by rfl) (fun w9 _ => by go_simp; try with_reducible rfl)) ?_
      try simp only [Act.put, List.setIfInBounds_toArray, List.set_cons_zero, List.set_cons_succ]
      refine wpAnyG_take 4 rfl (by kernel_rfl) (fun _ _ _ h => h) (YieldsG.pure (by rfl) (fun w9 _ => by go_simp; try with_reducible rfl)) ?_
      try simp only [Act.put, List.setIfInBounds_toArray, List.set_cons_zero, List.set_cons_succ]
      refine wpAnyG_take 5 rfl (by kernel_rfl) (fun _ _ _ h => h) (YieldsG.pure (v := .int .u64 (y1 : Int)) (by rfl) (fun w9 h9 => by have hz := (Below.cell (p := ⟨w.heap.size + 1, 1, none⟩) h9 lY).trans qy1; go_simp; first | done | simp [hz])) ?_
      try simp only [Act.put, List.setIfInBounds_toArray, List.set_cons_zero, List.set_cons_succ]
      refine wpAnyG_take 6 rfl (by kernel_rfl) (fun _ _ _ h => h) (YieldsG.pure (v := .bool b) (by rfl) (fun w9 h9 => by go_simp; congr 3; all_goals (rw [HB.out]; all_goals (by_cases h : x1 = y1 <;> simp [h] <;> omega)))) ?_
      try simp only [Act.put, List.setIfInBounds_toArray, List.set_cons_zero, List.set_cons_succ]
      refine wpAnyG_done (by kernel_rfl) (fun u hu => ?_)
      have hbu := Below.gr hb hu
      have BXu := Gr.blk hu BX
      have BYu := Gr.blk hu BY
      cases b
      · have hxy : x1 = y1 := by
          have := HB.out
          simpa using this
        have HXY := Lib.hid hxy
        clear hxy
        go_wp2
        exact ⟨⟨hbu, BXu, BYu, Lib.hid (.inr (.inr (.inr (.inl ⟨rfl, hk.out.1, hk.out.2, HXY.out⟩))))⟩, by decide⟩
      · have hxy : x1 ≠ y1 := by
          have := HB.out
          simpa using this
        have hr2 := Lib.hid (HT.out.2.2.1 hk.out.1 hk.out.2 hxy)
        have lXu := BXu.lt
        have lYu := BYu.lt
        have px : u.cell? ⟨w.heap.size, 1, none⟩ = some (.int .u64 (x1 : Int)) := BXu.cell 1
        have py : u.cell? ⟨w.heap.size + 1, 1, none⟩ = some (.int .u64 (y1 : Int)) := BYu.cell 1
        clear hxy hk HT
        go_wp2
        refine wp_region_G (fun _ => false) (by kernel_rfl) ?_
        try simp only [Act.put]
        refine wpAnyG_take 0 rfl (by kernel_rfl) (fun _ _ _ h => h) (YieldsG.pure (by rfl) (fun w9 _ => by go_simp; try with_reducible rfl)) ?_
        try simp only [Act.put, List.setIfInBounds_toArray, List.set_cons_zero, List.set_cons_succ]
        refine wpAnyG_take 1 rfl (by kernel_rfl) (fun _ _ _ h => h) (YieldsG.pure (by rfl) (fun w9 _ => by go_simp; try with_reducible rfl)) ?_
        try simp only [Act.put, List.setIfInBounds_toArray, List.set_cons_zero, List.set_cons_succ]
        refine wpAnyG_take 2 rfl (by kernel_rfl) (fun _ _ _ h => h) (YieldsG.pure (v := .int .u64 (x1 : Int)) (by rfl) (fun w9 h9 => by have hz := (Below.cell (p := ⟨w.heap.size, 1, none⟩) h9 lXu).trans px; go_simp; first | done | simp [hz])) ?_
        try simp only [Act.put, List.setIfInBounds_toArray, List.set_cons_zero, List.set_cons_succ]
        refine wpAnyG_take 3 rfl (by kernel_rfl) (fun _ _ _ h => h) (YieldsG.pure (by rfl) (fun w9 _ => by go_simp; try with_reducible rfl)) ?_
        try simp only [Act.put, List.setIfInBounds_toArray, List.set_cons_zero, List.set_cons_succ]
        refine wpAnyG_take 4 rfl (by kernel_rfl) (fun _ _ _ h => h) (YieldsG.pure (by rfl) (fun w9 _ => by go_simp; try with_reducible rfl)) ?_
        try simp only [Act.put, List.setIfInBounds_toArray, List.set_cons_zero, List.set_cons_succ]
        refine wpAnyG_take 5 rfl (by kernel_rfl) (fun _ _ _ h => h) (YieldsG.pure (v := .int .u64 (y1 : Int)) (by rfl) (fun w9 h9 => by have hz := (Below.cell (p := ⟨w.heap.size + 1, 1, none⟩) h9 lYu).trans py; go_simp; first | done | simp [hz])) ?_
        try simp only [Act.put, List.setIfInBounds_toArray, List.set_cons_zero, List.set_cons_succ]
        refine wpAnyG_take 6 rfl (by kernel_rfl) (fun _ _ _ h => h) (YieldsG.pure (v := .bool r) (by rfl) (fun w9 h9 => by go_simp; congr 3; rw [hr2.out]; all_goals (apply decide_eq_decide.2; omega))) ?_
        try simp only [Act.put, List.setIfInBounds_toArray, List.set_cons_zero, List.set_cons_succ]
        refine wpAnyG_take 7 rfl (by kernel_rfl) (fun _ _ _ h => h) (YieldsG.pure (by rfl) (fun w9 _ => by go_simp; try with_reducible rfl)) ?_
        try simp only [Act.put, List.setIfInBounds_toArray, List.set_cons_zero, List.set_cons_succ]
        refine wpAnyG_done (by kernel_rfl) (fun u2 hu2 => ?_)
        go_wp2
        go_ret
        exact ⟨rfl, Below.gr hbu hu2⟩
    · have hk : Hid (x3 = y3 ∧ x2 = y2 ∧ x1 = y1) := Lib.hid E
      clear HI E
      obtain ⟨b, hbd⟩ : ∃ b, b = decide (x0 ≠ y0) := ⟨_, rfl⟩
      have hbb : (!((x0 : Int) == (y0 : Int))) = b := by
        rw [hbd]
        by_cases h : x0 = y0 <;> simp [h] <;> omega
      have HB := Lib.hid hbd
      clear hbd
      go_wp2
      refine wp_region_G (fun _ => false) (by kernel_rfl) ?_
      try simp only [Act.put]
      refine wpAnyG_take 0 rfl (by kernel_rfl) (fun _ _ _ h => h) (YieldsG.pure (by rfl) (fun w9 _ => by go_simp; try with_reducible rfl)) ?_
      try simp only [Act.put, List.setIfInBounds_toArray, List.set_cons_zero, List.set_cons_succ]
      refine wpAnyG_take 1 rfl (by kernel_rfl) (fun _ _ _ h => h) (YieldsG.pure (by rfl) (fun w9 _ => by go_simp; try with_reducible rfl)) ?_
      try simp only [Act.put, List.setIfInBounds_toArray, List.set_cons_zero, List.set_cons_succ]
      refine wpAnyG_take 2 rfl (by kernel_rfl) (fun _ _ _ h => h) (YieldsG.pure (v := .int .u64 (x0 : Int)) (by rfl) (fun w9 h9 => by have hz := (Below.cell (p := ⟨w.heap.size, 0, none⟩) h9 lX).trans qx0; go_simp; first | done | simp [hz])) ?_
      try simp only [Act.put, List.setIfInBounds_toArray, List.set_cons_zero, List.set_cons_succ]
      refine wpAnyG_take 3 rfl (by kernel_rfl) (fun _ _ _ h => h) (YieldsG.pure (by rfl) (fun w9 _ => by go_simp; try with_reducible rfl)) ?_
      try simp only [Act.put, List.setIfInBounds_toArray, List.set_cons_zero, List.set_cons_succ]
      refine wpAnyG_take 4 rfl (by kernel_rfl) (fun _ _ _ h => h) (YieldsG.pure (by rfl) (fun w9 _ => by go_simp; try with_reducible rfl)) ?_
      try simp only [Act.put, List.setIfInBounds_toArray, List.set_cons_zero, List.set_cons_succ]
      refine wpAnyG_take 5 rfl (by kernel_rfl) (fun _ _ _ h => h) (YieldsG.pure (v := .int .u64 (y0 : Int)) (by rfl) (fun w9 h9 => by have hz := (Below.cell (p := ⟨w.heap.size + 1, 0, none⟩) h9 lY).trans qy0; go_simp; first | done | simp [hz])) ?_
      try simp only [Act.put, List.setIfInBounds_toArray, List.set_cons_zero, List.set_cons_succ]
      refine wpAnyG_take 6 rfl (by kernel_rfl) (fun _ _ _ h => h) (YieldsG.pure (v := .bool b) (by rfl) (fun w9 h9 => by go_simp; congr 3; all_goals (rw [HB.out]; all_goals (by_cases h : x0 = y0 <;> simp [h] <;> omega)))) ?_
      try simp only [Act.put, List.setIfInBounds_toArray, List.set_cons_zero, List.set_cons_succ]
      refine wpAnyG_done (by kernel_rfl) (fun u hu => ?_)
      have hbu := Below.gr hb hu
      have BXu := Gr.blk hu BX
      have BYu := Gr.blk hu BY
      cases b
      · have hxy : x0 = y0 := by
          have := HB.out
          simpa using this
        have HXY := Lib.hid hxy
        clear hxy
        go_wp2
        exact ⟨⟨hbu, BXu, BYu, Lib.hid (.inr (.inr (.inr (.inr ⟨rfl, hk.out.1, hk.out.2.1, hk.out.2.2, HXY.out⟩))))⟩, by decide⟩
      · have hxy : x0 ≠ y0 := by
          have := HB.out
          simpa using this
        have hr2 := Lib.hid (HT.out.2.2.2.1 hk.out.1 hk.out.2.1 hk.out.2.2 hxy)
        have lXu := BXu.lt
        have lYu := BYu.lt
        have px : u.cell? ⟨w.heap.size, 0, none⟩ = some (.int .u64 (x0 : Int)) := BXu.cell 0
        have py : u.cell? ⟨w.heap.size + 1, 0, none⟩ = some (.int .u64 (y0 : Int)) := BYu.cell 0
        clear hxy hk HT
        go_wp2
        refine wp_region_G (fun _ => false) (by kernel_rfl) ?_
        try simp only [Act.put]
        refine wpAnyG_take 0 rfl (by kernel_rfl) (fun _ _ _ h => h) (YieldsG.pure (by rfl) (fun w9 _ => by go_simp; try with_reducible rfl)) ?_
        try simp only [Act.put, List.setIfInBounds_toArray, List.set_cons_zero, List.set_cons_succ]
        refine wpAnyG_take 1 rfl (by kernel_rfl) (fun _ _ _ h => h) (YieldsG.pure (by rfl) (fun w9 _ => by go_simp; try with_reducible rfl)) ?_
        try simp only [Act.put, List.setIfInBounds_toArray, List.set_cons_zero, List.set_cons_succ]
        refine wpAnyG_take 2 rfl (by kernel_rfl) (fun _ _ _ h => h) (YieldsG.pure (v := .int .u64 (x0 : Int)) (by rfl) (fun w9 h9 => by have hz := (Below.cell (p := ⟨w.heap.size, 0, none⟩) h9 lXu).trans px; go_simp; first | done | simp [hz])) ?_
        try simp only [Act.put, List.setIfInBounds_toArray, List.set_cons_zero, List.set_cons_succ]
        refine wpAnyG_take 3 rfl (by kernel_rfl) (fun _ _ _ h => h) (YieldsG.pure (by rfl) (fun w9 _ => by go_simp; try with_reducible rfl)) ?_
        try simp only [Act.put, List.setIfInBounds_toArray, List.set_cons_zero, List.set_cons_succ]
        refine wpAnyG_take 4 rfl (by kernel_rfl) (fun _ _ _ h => h) (YieldsG.pure (by rfl) (fun w9 _ => by go_simp; try with_reducible rfl)) ?_
        try simp only [Act.put, List.setIfInBounds_toArray, List.set_cons_zero, List.set_cons_succ]
        refine wpAnyG_take 5 rfl (by kernel_rfl) (fun _ _ _ h => h) (YieldsG.pure (v := .int .u64 (y0 : Int)) (by rfl) (fun w9 h9 => by have hz := (Below.cell (p := ⟨w.heap.size + 1, 0, none⟩) h9 lYu).trans py; go_simp; first | done | simp [hz])) ?_
        try simp only [Act.put, List.setIfInBounds_toArray, List.set_cons_zero, List.set_cons_succ]
        refine wpAnyG_take 6 rfl (by kernel_rfl) (fun _ _ _ h => h) (YieldsG.pure (v := .bool r) (by rfl) (fun w9 h9 => by go_simp; congr 3; rw [hr2.out]; all_goals (apply decide_eq_decide.2; omega))) ?_
        try simp only [Act.put, List.setIfInBounds_toArray, List.set_cons_zero, List.set_cons_succ]
        refine wpAnyG_take 7 rfl (by kernel_rfl) (fun _ _ _ h => h) (YieldsG.pure (by rfl) (fun w9 _ => by go_simp; try with_reducible rfl)) ?_
        try simp only [Act.put, List.setIfInBounds_toArray, List.set_cons_zero, List.set_cons_succ]
        refine wpAnyG_done (by kernel_rfl) (fun u2 hu2 => ?_)
        go_wp2
        go_ret
        exact ⟨rfl, Below.gr hbu hu2⟩
    · have HR : Hid (r = false) := Lib.hid (HT.out.2.2.2.2 E.1 E.2.1 E.2.2.1 E.2.2.2)
      clear HI E
      go_wp2
      go_ret
      exact ⟨by rw [HR.out]; rfl, hb⟩

end Go.Proofs.Ytbofhoonlmikcaa

end
section
namespace Go.Proofs.Ytbofhoonlmikcaa
open Go.RowKit Go.Lib

set_option maxHeartbeats 8000000 in
set_option maxRecDepth 100000 in
theorem minusR_at {v1 v2 : Value} (w : World) (x y s k : Nat) (h1 : fv x = v1) (h2 : fv y = v2) (hx : x < 115792089237316195423570985008687907853269984665640564039457584007913129639936) (hy : y < 115792089237316195423570985008687907853269984665640564039457584007913129639936) (hs : s < 115792089237316195423570985008687907853269984665640564039457584007913129639936) (he : s + y = x + 115792089237316195423570985008687907853269984665640564039457584007913129639936 * k) : Calls Try.prog 38 #[v1, v2] w fun e w' => e = .returned (fv s) ∧ Below w.heap.size w w' := by
  subst h1 h2
  obtain ⟨x0, x1, x2, x3, a0, a1, a2, a3, ex, fx⟩ := words_of x hx
  obtain ⟨y0, y1, y2, y3, b0, b1, b2, b3, ey, fy⟩ := words_of y hy
  obtain ⟨s0, c0, d0, k0, e0, r0⟩ := sub0_ex x0 y0 a0 b0
  obtain ⟨s1, c1, d1, k1, e1, r1⟩ := subc_ex x1 y1 c0 a1 b1 k0
  obtain ⟨s2, c2, d2, k2, e2, r2⟩ := subc_ex x2 y2 c1 a2 b2 k1
  obtain ⟨s3, c3, d3, k3, e3, r3⟩ := subc_ex x3 y3 c2 a3 b3 k2
  have fin : s0 + 18446744073709551616 * s1 + 340282366920938463463374607431768211456 * s2 + 6277101735386680763835789423207666416102355444464034512896 * s3 = s := by omega
  have hfs := fv_mk s0 s1 s2 s3 d0 d1 d2 d3
  rw [fin] at hfs
  have Fd := Lib.hid hfs
  rw [fx, fy]
  clear fx fy ex ey hx hy hs he a0 a1 a2 a3 b0 b1 b2 b3 d0 d1 d2 d3 k0 k1 k2 k3 e0 e1 e2 e3 fin hfs
  go_enter Try.func38, Try.ntmps38
  go_wp2_with fail
  go_loopw [5, 6] (fun bo i wr => Below w.heap.size w wr ∧ Blk wr (w.heap.size + 1) 45 #[.int .u64 (y0 : Int), .int .u64 (y1 : Int), .int .u64 (y2 : Int), .int .u64 (y3 : Int)] ∧ Blk wr (w.heap.size + 2) 45 #[.int .u64 0, .int .u64 0, .int .u64 0, .int .u64 0] ∧ Hid ((i = .int .i64 0 ∧ bo = .int .u64 0 ∧ Blk wr w.heap.size 45 #[.int .u64 (x0 : Int), .int .u64 (x1 : Int), .int .u64 (x2 : Int), .int .u64 (x3 : Int)]) ∨ (i = .int .i64 1 ∧ bo = .int .u64 (c0 : Int) ∧ Blk wr w.heap.size 45 #[.int .u64 (s0 : Int), .int .u64 (x1 : Int), .int .u64 (x2 : Int), .int .u64 (x3 : Int)]) ∨ (i = .int .i64 2 ∧ bo = .int .u64 (c1 : Int) ∧ Blk wr w.heap.size 45 #[.int .u64 (s0 : Int), .int .u64 (s1 : Int), .int .u64 (x2 : Int), .int .u64 (x3 : Int)]) ∨ (i = .int .i64 3 ∧ bo = .int .u64 (c2 : Int) ∧ Blk wr w.heap.size 45 #[.int .u64 (s0 : Int), .int .u64 (s1 : Int), .int .u64 (s2 : Int), .int .u64 (x3 : Int)]) ∨ (i = .int .i64 4 ∧ bo = .int .u64 (c3 : Int) ∧ Blk wr w.heap.size 45 #[.int .u64 (s0 : Int), .int .u64 (s1 : Int), .int .u64 (s2 : Int), .int .u64 (s3 : Int)]))) (fun _ i _ => 4 - (intOf i).toNat)
  case atStart => exact ⟨below_alloc3 w _ _ _, (blk_new2 w _ _ _).alloc _, blk_new3 w _ _ _ _, Lib.hid (.inl ⟨rfl, rfl, ((Blk.new w _ _).alloc _).alloc _⟩)⟩
  case round =>
    obtain ⟨hb, BY, BR, HI⟩ := hrel
    have lY := BY.lt
    have lX : w.heap.size < wr.heap.size := by omega
    have hsz : w.heap.size + 2 < wr.heap.size := BR.lt
    rcases HI.out with ⟨rfl, rfl, BX⟩ | ⟨rfl, rfl, BX⟩ | ⟨rfl, rfl, BX⟩ | ⟨rfl, rfl, BX⟩ | ⟨rfl, rfl, BX⟩
    · clear HI
      have px : wr.cell? ⟨w.heap.size, 0, none⟩ = some (.int .u64 (x0 : Int)) := BX.cell 0
      have py : wr.cell? ⟨w.heap.size + 1, 0, none⟩ = some (.int .u64 (y0 : Int)) := BY.cell 0
      go_wp2
      refine wp_region_G (fun _ => false) (by kernel_rfl) ?_
      try simp only [Act.put]
      refine wpAnyG_take 0 rfl (by kernel_rfl) (fun _ _ _ h => h) (YieldsG.pure (by rfl) (fun w9 _ => by go_simp; try with_reducible rfl)) ?_
      try simp only [Act.put, List.setIfInBounds_toArray, List.set_cons_zero, List.set_cons_succ]
      refine wpAnyG_take 1 rfl (by kernel_rfl) (fun _ _ _ h => h) (YieldsG.pure (by rfl) (fun w9 _ => by go_simp; try with_reducible rfl)) ?_
      try simp only [Act.put, List.setIfInBounds_toArray, List.set_cons_zero, List.set_cons_succ]
      refine wpAnyG_take 2 rfl (by kernel_rfl) (fun _ _ _ h => h) (YieldsG.pure (v := .int .u64 (x0 : Int)) (by rfl) (fun w9 h9 => by have hz := (Below.cell (p := ⟨w.heap.size, 0, none⟩) h9 lX).trans px; go_simp; first | done | simp [hz])) ?_
      try simp only [Act.put, List.setIfInBounds_toArray, List.set_cons_zero, List.set_cons_succ]
      refine wpAnyG_take 3 rfl (by kernel_rfl) (fun _ _ _ h => h) (YieldsG.pure (by rfl) (fun w9 _ => by go_simp; try with_reducible rfl)) ?_
      try simp only [Act.put, List.setIfInBounds_toArray, List.set_cons_zero, List.set_cons_succ]
      refine wpAnyG_take 4 rfl (by kernel_rfl) (fun _ _ _ h => h) (YieldsG.pure (by rfl) (fun w9 _ => by go_simp; try with_reducible rfl)) ?_
      try simp only [Act.put, List.setIfInBounds_toArray, List.set_cons_zero, List.set_cons_succ]
      refine wpAnyG_take 5 rfl (by kernel_rfl) (fun _ _ _ h => h) (YieldsG.pure (v := .int .u64 (y0 : Int)) (by rfl) (fun w9 h9 => by have hz := (Below.cell (p := ⟨w.heap.size + 1, 0, none⟩) h9 lY).trans py; go_simp; first | done | simp [hz])) ?_
      try simp only [Act.put, List.setIfInBounds_toArray, List.set_cons_zero, List.set_cons_succ]
      refine wpAnyG_take 6 rfl (by kernel_rfl) (fun _ _ _ h => h) (YieldsG.pure (by rfl) (fun w9 _ => by go_simp; try with_reducible rfl)) ?_
      try simp only [Act.put, List.setIfInBounds_toArray, List.set_cons_zero, List.set_cons_succ]
      refine wpAnyG_take 7 rfl (by kernel_rfl) (fun _ _ _ h => h) (YieldsG.pure (v := .tuple #[.int .u64 (s0 : Int), .int .u64 (c0 : Int)]) (by rfl) (fun w9 h9 => by go_simp)) ?_
      try simp only [Act.put, List.setIfInBounds_toArray, List.set_cons_zero, List.set_cons_succ]
      refine wpAnyG_take 8 rfl (by kernel_rfl) (fun _ _ _ h => h) (YieldsG.pure (by rfl) (fun w9 _ => by go_simp; try with_reducible rfl)) ?_
      try simp only [Act.put, List.setIfInBounds_toArray, List.set_cons_zero, List.set_cons_succ]
      refine wpAnyG_take 9 rfl (by kernel_rfl) (fun _ _ _ h => h) (YieldsG.pure (by rfl) (fun w9 _ => by go_simp; try with_reducible rfl)) ?_
      try simp only [Act.put, List.setIfInBounds_toArray, List.set_cons_zero, List.set_cons_succ]
      refine wpAnyG_take 10 rfl (by kernel_rfl) (fun _ _ _ h => h) (YieldsG.pure (by rfl) (fun w9 _ => by go_simp; try with_reducible rfl)) ?_
      try simp only [Act.put, List.setIfInBounds_toArray, List.set_cons_zero, List.set_cons_succ]
      refine wpAnyG_take 11 rfl (by kernel_rfl) (fun _ _ _ h => h) (YieldsG.pure (by rfl) (fun w9 _ => by go_simp; try with_reducible rfl)) ?_
      try simp only [Act.put, List.setIfInBounds_toArray, List.set_cons_zero, List.set_cons_succ]
      refine wpAnyG_take 12 rfl (by kernel_rfl) (fun _ _ _ h => h) (YieldsG.pure (by rfl) (fun w9 _ => by go_simp; try with_reducible rfl)) ?_
      try simp only [Act.put, List.setIfInBounds_toArray, List.set_cons_zero, List.set_cons_succ]
      refine wpAnyG_done (by kernel_rfl) (fun u hu => ?_)
      have BXu := Gr.blk hu BX
      have BYu := Gr.blk hu BY
      have BRu := Gr.blk hu BR
      have hbu := Below.gr hb hu
      have pc : u.cell? ⟨w.heap.size, 0, none⟩ = some (.int .u64 (x0 : Int)) := BXu.cell 0
      have pf := BXu.frozen 0
      go_wp2
      refine ⟨⟨hbu.setCell (Nat.le_refl _) _, BYu.far (by show w.heap.size + 1 ≠ w.heap.size; omega) _, BRu.far (by show w.heap.size + 2 ≠ w.heap.size; omega) _, Lib.hid (.inr (.inl (⟨rfl, rfl, BXu.set_ 0 _⟩)))⟩, by decide⟩
    · clear HI
      have px : wr.cell? ⟨w.heap.size, 1, none⟩ = some (.int .u64 (x1 : Int)) := BX.cell 1
      have py : wr.cell? ⟨w.heap.size + 1, 1, none⟩ = some (.int .u64 (y1 : Int)) := BY.cell 1
      go_wp2
      refine wp_region_G (fun _ => false) (by kernel_rfl) ?_
      try simp only [Act.put]
      refine wpAnyG_take 0 rfl (by kernel_rfl) (fun _ _ _ h => h) (YieldsG.pure (by rfl) (fun w9 _ => by go_simp; try with_reducible rfl)) ?_
      try simp only [Act.put, List.setIfInBounds_toArray, List.set_cons_zero, List.set_cons_succ]
      refine wpAnyG_take 1 rfl (by kernel_rfl) (fun _ _ _ h => h) (YieldsG.pure (by rfl) (fun w9 _ => by go_simp; try with_reducible rfl)) ?_
      try simp only [Act.put, List.setIfInBounds_toArray, List.set_cons_zero, List.set_cons_succ]
      refine wpAnyG_take 2 rfl (by kernel_rfl) (fun _ _ _ h => h) (YieldsG.pure (v := .int .u64 (x1 : Int)) (by rfl) (fun w9 h9 => by have hz := (Below.cell (p := ⟨w.heap.size, 1, none⟩) h9 lX).trans px; go_simp; first | done | simp [hz])) ?_
      try simp only [Act.put, List.setIfInBounds_toArray, List.set_cons_zero, List.set_cons_succ]
      refine wpAnyG_take 3 rfl (by kernel_rfl) (fun _ _ _ h => h) (YieldsG.pure (by rfl) (fun w9 _ => by go_simp; try with_reducible rfl)) ?_
      try simp only [Act.put, List.setIfInBounds_toArray, List.set_cons_zero, List.set_cons_succ]
      refine wpAnyG_take 4 rfl (by kernel_rfl) (fun _ _ _ h => h) (YieldsG.pure (by rfl) (fun w9 _ => by go_simp; try with_reducible rfl)) ?_
      try simp only [Act.put, List.setIfInBounds_toArray, List.set_cons_zero, List.set_cons_succ]
      refine wpAnyG_take 5 rfl (by kernel_rfl) (fun _ _ _ h => h) (YieldsG.pure (v := .int .u64 (y1 : Int)) (by rfl) (fun w9 h9 => by have hz := (Below.cell (p := ⟨w.heap.size + 1, 1, none⟩) h9 lY).trans py; go_simp; first | done | simp [hz])) ?_
      try simp only [Act.put, List.setIfInBounds_toArray, List.set_cons_zero, List.set_cons_succ]
      refine wpAnyG_take 6 rfl (by kernel_rfl) (fun _ _ _ h => h) (YieldsG.pure (by rfl) (fun w9 _ => by go_simp; try with_reducible rfl)) ?_
      try simp only [Act.put, List.setIfInBounds_toArray, List.set_cons_zero, List.set_cons_succ]
      refine wpAnyG_take 7 rfl (by kernel_rfl) (fun _ _ _ h => h) (YieldsG.pure (v := .tuple #[.int .u64 (s1 : Int), .int .u64 (c1 : Int)]) (by rfl) (fun w9 h9 => by go_simp)) ?_
      try simp only [Act.put, List.setIfInBounds_toArray, List.set_cons_zero, List.set_cons_succ]
      refine wpAnyG_take 8 rfl (by kernel_rfl) (fun _ _ _ h => h) (YieldsG.pure (by rfl) (fun w9 _ => by go_simp; try with_reducible rfl)) ?_
      try simp only [Act.put, List.setIfInBounds_toArray, List.set_cons_zero, List.set_cons_succ]
      refine wpAnyG_take 9 rfl (by kernel_rfl) (fun _ _ _ h => h) (YieldsG.pure (by rfl) (fun w9 _ => by go_simp; try with_reducible rfl)) ?_
      try simp only [Act.put, List.setIfInBounds_toArray, List.set_cons_zero, List.set_cons_succ]
      refine wpAnyG_take 10 rfl (by kernel_rfl) (fun _ _ _ h => h) (YieldsG.pure (by rfl) (fun w9 _ => by go_simp; try with_reducible rfl)) ?_
      try simp only [Act.put, List.setIfInBounds_toArray, List.set_cons_zero, List.set_cons_succ]
      refine wpAnyG_take 11 rfl (by kernel_rfl) (fun _ _ _ h => h) (YieldsG.pure (by rfl) (fun w9 _ => by go_simp; try with_reducible rfl)) ?_
      try simp only [Act.put, List.setIfInBounds_toArray, List.set_cons_zero, List.set_cons_succ]
      refine wpAnyG_take 12 rfl (by kernel_rfl) (fun _ _ _ h => h) (YieldsG.pure (by rfl) (fun w9 _ => by go_simp; try with_reducible rfl)) ?_
      try simp only [Act.put, List.setIfInBounds_toArray, List.set_cons_zero, List.set_cons_succ]
      refine wpAnyG_done (by kernel_rfl) (fun u hu => ?_)
      have BXu := Gr.blk hu BX
      have BYu := Gr.blk hu BY
      have BRu := Gr.blk hu BR
      have hbu := Below.gr hb hu
      have pc : u.cell? ⟨w.heap.size, 1, none⟩ = some (.int .u64 (x1 : Int)) := BXu.cell 1
      have pf := BXu.frozen 1
      go_wp2
      refine ⟨⟨hbu.setCell (Nat.le_refl _) _, BYu.far (by show w.heap.size + 1 ≠ w.heap.size; omega) _, BRu.far (by show w.heap.size + 2 ≠ w.heap.size; omega) _, Lib.hid (.inr (.inr (.inl (⟨rfl, rfl, BXu.set_ 1 _⟩))))⟩, by decide⟩
    · clear HI
      have px : wr.cell? ⟨w.heap.size, 2, none⟩ = some (.int .u64 (x2 : Int)) := BX.cell 2
      have py : wr.cell? ⟨w.heap.size + 1, 2, none⟩ = some (.int .u64 (y2 : Int)) := BY.cell 2
      go_wp2
      refine wp_region_G (fun _ => false) (by kernel_rfl) ?_
      try simp only [Act.put]
      refine wpAnyG_take 0 rfl (by kernel_rfl) (fun _ _ _ h => h) (YieldsG.pure (by rfl) (fun w9 _ => by go_simp; try with_reducible rfl)) ?_
      try simp only [Act.put, List.setIfInBounds_toArray, List.set_cons_zero, List.set_cons_succ]
      refine wpAnyG_take 1 rfl (by kernel_rfl) (fun _ _ _ h => h) (YieldsG.pure (by rfl) (fun w9 _ => by go_simp; try with_reducible rfl)) ?_
      try simp only [Act.put, List.setIfInBounds_toArray, List.set_cons_zero, List.set_cons_succ]
      refine wpAnyG_take 2 rfl (by kernel_rfl) (fun _ _ _ h => h) (YieldsG.pure (v := .int .u64 (x2 : Int)) (by rfl) (fun w9 h9 => by have hz := (Below.cell (p := ⟨w.heap.size, 2, none⟩) h9 lX).trans px; go_simp; first | done | simp [hz])) ?_
      try simp only [Act.put, List.setIfInBounds_toArray, List.set_cons_zero, List.set_cons_succ]
      refine wpAnyG_take 3 rfl (by kernel_rfl) (fun _ _ _ h => h) (YieldsG.pure (by rfl) (fun w9 _ => by go_simp; try with_reducible rfl)) ?_
      try simp only [Act.put, List.setIfInBounds_toArray, List.set_cons_zero, List.set_cons_succ]
      refine wpAnyG_take 4 rfl (by kernel_rfl) (fun _ _ _ h => h) (YieldsG.pure (by rfl) (fun w9 _ => by go_simp; try with_reducible rfl)) ?_
      try simp only [Act.put, List.setIfInBounds_toArray, List.set_cons_zero, List.set_cons_succ]
      refine wpAnyG_take 5 rfl (by kernel_rfl) (fun _ _ _ h => h) (YieldsG.pure (v := .int .u64 (y2 : Int)) (by rfl) (fun w9 h9 => by have hz := (Below.cell (p := ⟨w.heap.size + 1, 2, none⟩) h9 lY).trans py; go_simp; first | done | simp [hz])) ?_
      try simp only [Act.put, List.setIfInBounds_toArray, List.set_cons_zero, List.set_cons_succ]
      refine wpAnyG_take 6 rfl (by kernel_rfl) (fun _ _ _ h => h) (YieldsG.pure (by rfl) (fun w9 _ => by go_simp; try with_reducible rfl)) ?_
      try simp only [Act.put, List.setIfInBounds_toArray, List.set_cons_zero, List.set_cons_succ]
      refine wpAnyG_take 7 rfl (by kernel_rfl) (fun _ _ _ h => h) (YieldsG.pure (v := .tuple #[.int .u64 (s2 : Int), .int .u64 (c2 : Int)]) (by rfl) (fun w9 h9 => by go_simp)) ?_
      try simp only [Act.put, List.setIfInBounds_toArray, List.set_cons_zero, List.set_cons_succ]
      refine wpAnyG_take 8 rfl (by kernel_rfl) (fun _ _ _ h => h) (YieldsG.pure (by rfl) (fun w9 _ => by go_simp; try with_reducible rfl)) ?_
      try simp only [Act.put, List.setIfInBounds_toArray, List.set_cons_zero, List.set_cons_succ]
      refine wpAnyG_take 9 rfl (by kernel_rfl) (fun _ _ _ h => h) (YieldsG.pure (by rfl) (fun w9 _ => by go_simp; try with_reducible rfl)) ?_
      try simp only [Act.put, List.setIfInBounds_toArray, List.set_cons_zero, List.set_cons_succ]
      refine wpAnyG_take 10 rfl (by kernel_rfl) (fun _ _ _ h => h) (YieldsG.pure (by rfl) (fun w9 _ => by go_simp; try with_reducible rfl)) ?_
      try simp only [Act.put, List.setIfInBounds_toArray, List.set_cons_zero, List.set_cons_succ]
      refine wpAnyG_take 11 rfl (by kernel_rfl) (fun _ _ _ h => h) (YieldsG.pure (by rfl) (fun w9 _ => by go_simp; try with_reducible rfl)) ?_
      try simp only [Act.put, List.setIfInBounds_toArray, List.set_cons_zero, List.set_cons_succ]
      refine wpAnyG_take 12 rfl (by kernel_rfl) (fun _ _ _ h => h) (YieldsG.pure (by rfl) (fun w9 _ => by go_simp; try with_reducible rfl)) ?_
      try simp only [Act.put, List.setIfInBounds_toArray, List.set_cons_zero, List.set_cons_succ]
      refine wpAnyG_done (by kernel_rfl) (fun u hu => ?_)
      have BXu := Gr.blk hu BX
      have BYu := Gr.blk hu BY
      have BRu := Gr.blk hu BR
      have hbu := Below.gr hb hu
      have pc : u.cell? ⟨w.heap.size, 2, none⟩ = some (.int .u64 (x2 : Int)) := BXu.cell 2
      have pf := BXu.frozen 2
      go_wp2
      refine ⟨⟨hbu.setCell (Nat.le_refl _) _, BYu.far (by show w.heap.size + 1 ≠ w.heap.size; omega) _, BRu.far (by show w.heap.size + 2 ≠ w.heap.size; omega) _, Lib.hid (.inr (.inr (.inr (.inl (⟨rfl, rfl, BXu.set_ 2 _⟩)))))⟩, by decide⟩
    · clear HI
      have px : wr.cell? ⟨w.heap.size, 3, none⟩ = some (.int .u64 (x3 : Int)) := BX.cell 3
      have py : wr.cell? ⟨w.heap.size + 1, 3, none⟩ = some (.int .u64 (y3 : Int)) := BY.cell 3
      go_wp2
      refine wp_region_G (fun _ => false) (by kernel_rfl) ?_
      try simp only [Act.put]
      refine wpAnyG_take 0 rfl (by kernel_rfl) (fun _ _ _ h => h) (YieldsG.pure (by rfl) (fun w9 _ => by go_simp; try with_reducible rfl)) ?_
      try simp only [Act.put, List.setIfInBounds_toArray, List.set_cons_zero, List.set_cons_succ]
      refine wpAnyG_take 1 rfl (by kernel_rfl) (fun _ _ _ h => h) (YieldsG.pure (by rfl) (fun w9 _ => by go_simp; try with_reducible rfl)) ?_
      try simp only [Act.put, List.setIfInBounds_toArray, List.set_cons_zero, List.set_cons_succ]
      refine wpAnyG_take 2 rfl (by kernel_rfl) (fun _ _ _ h => h) (YieldsG.pure (v := .int .u64 (x3 : Int)) (by rfl) (fun w9 h9 => by have hz := (Below.cell (p := ⟨w.heap.size, 3, none⟩) h9 lX).trans px; go_simp; first | done | simp [hz])) ?_
      try simp only [Act.put, List.setIfInBounds_toArray, List.set_cons_zero, List.set_cons_succ]
      refine wpAnyG_take 3 rfl (by kernel_rfl) (fun _ _ _ h => h) (YieldsG.pure (by rfl) (fun w9 _ => by go_simp; try with_reducible rfl)) ?_
      try simp only [Act.put, List.setIfInBounds_toArray, List.set_cons_zero, List.set_cons_succ]
      refine wpAnyG_take 4 rfl (by kernel_rfl) (fun _ _ _ h => h) (YieldsG.pure (by rfl) (fun w9 _ => by go_simp; try with_reducible rfl)) ?_
      try simp only [Act.put, List.setIfInBounds_toArray, List.set_cons_zero, List.set_cons_succ]
      refine wpAnyG_take 5 rfl (by kernel_rfl) (fun _ _ _ h => h) (YieldsG.pure (v := .int .u64 (y3 : Int)) (by rfl) (fun w9 h9 => by have hz := (Below.cell (p := ⟨w.heap.size + 1, 3, none⟩) h9 lY).trans py; go_simp; first | done | simp [hz])) ?_
      try simp only [Act.put, List.setIfInBounds_toArray, List.set_cons_zero, List.set_cons_succ]
      refine wpAnyG_take 6 rfl (by kernel_rfl) (fun _ _ _ h => h) (YieldsG.pure (by rfl) (fun w9 _ => by go_simp; try with_reducible rfl)) ?_
      try simp only [Act.put, List.setIfInBounds_toArray, List.set_cons_zero, List.set_cons_succ]
      refine wpAnyG_take 7 rfl (by kernel_rfl) (fun _ _ _ h => h) (YieldsG.pure (v := .tuple #[.int .u64 (s3 : Int), .int .u64 (c3 : Int)]) (by rfl) (fun w9 h9 => by go_simp)) ?_
      try simp only [Act.put, List.setIfInBounds_toArray, List.set_cons_zero, List.set_cons_succ]
      refine wpAnyG_take 8 rfl (by kernel_rfl) (fun _ _ _ h => h) (YieldsG.pure (by rfl) (fun w9 _ => by go_simp; try with_reducible rfl)) ?_
      try simp only [Act.put, List.setIfInBounds_toArray, List.set_cons_zero, List.set_cons_succ]
      refine wpAnyG_take 9 rfl (by kernel_rfl) (fun _ _ _ h => h) (YieldsG.pure (by rfl) (fun w9 _ => by go_simp; try with_reducible rfl)) ?_
      try simp only [Act.put, List.setIfInBounds_toArray, List.set_cons_zero, List.set_cons_succ]
      refine wpAnyG_take 10 rfl (by kernel_rfl) (fun _ _ _ h => h) (YieldsG.pure (by rfl) (fun w9 _ => by go_simp; try with_reducible rfl)) ?_
      try simp only [Act.put, List.setIfInBounds_toArray, List.set_cons_zero, List.set_cons_succ]
      refine wpAnyG_take 11 rfl (by kernel_rfl) (fun _ _ _ h => h) (YieldsG.pure (by rfl) (fun w9 _ => by go_simp; try with_reducible rfl)) ?_
      try simp only [Act.put, List.setIfInBounds_toArray, List.set_cons_zero, List.set_cons_succ]
      refine wpAnyG_take 12 rfl (by kernel_rfl) (fun _ _ _ h => h) (YieldsG.pure (by rfl) (fun w9 _ => by go_simp; try with_reducible rfl)) ?_
      try simp only [Act.put, List.setIfInBounds_toArray, List.set_cons_zero, List.set_cons_succ]
      refine wpAnyG_done (by kernel_rfl) (fun u hu => ?_)
      have BXu := Gr.blk hu BX
      have BYu := Gr.blk hu BY
      have BRu := Gr.blk hu BR
      have hbu := Below.gr hb hu
      have pc : u.cell? ⟨w.heap.size, 3, none⟩ = some (.int .u64 (x3 : Int)) := BXu.cell 3
      have pf := BXu.frozen 3
      go_wp2
      refine ⟨⟨hbu.setCell (Nat.le_refl _) _, BYu.far (by show w.heap.size + 1 ≠ w.heap.size; omega) _, BRu.far (by show w.heap.size + 2 ≠ w.heap.size; omega) _, Lib.hid (.inr (.inr (.inr (.inr (⟨rfl, rfl, BXu.set_ 3 _⟩)))))⟩, by decide⟩
    · clear HI
      have BS := BX.eq_ (fcs_words Fd.out.symm).symm
      go_wp2_with (first | ((with_reducible refine here_load (d := some 28) ?_); refine wpList_load_fv rfl _ _ rfl (w.heap.size) rfl (s) _ _ _ (BS) (fv_fcs s) Try.underlying45 rfl (by kernel_rfl) ?_) | ((with_reducible refine here_store ?_); refine wpList_store_blk rfl _ _ _ rfl (w.heap.size + 2) (fcs (s)) rfl rfl _ _ (BR) (by kernel_rfl) (by rfl) (fcs_one _) ?_; intro w9 hL9 hB9 hK9))
      exact bodyPost_ret (results_cell_row rfl _ _ (w.heap.size + 2) _ _ (0, 0) _ rfl hL9 Try.underlying45 rfl (by kernel_rfl)) rfl ⟨rfl, hb.trans (hB9 _ (by omega))⟩

theorem mod_range {w : World} {g : Nat} {t : TypeId} {a b c d : Value} {r : List Value} (h : Blk w g t (a :: b :: c :: d :: r).toArray) : w.rangeAt g 0 [a, b, c, d] := fun j v hj => by
  rw [Nat.zero_add, h.cell]
  match j, hj with
  | 0, hj => simpa using hj
  | 1, hj => simpa using hj
  | 2, hj => simpa using hj
  | 3, hj => simpa using hj
  | j + 4, hj => simp at hj
theorem wpList_load_part {P : Program} {ops : Array Oper} {rest : List Oper} {o : Oper} {a : Act} {w : World} {Q : Exit → Act → World → Prop} (hgd : o.guard = none) (ty : TypeId) (x : Operand) (ho : o.op = .load ty x)
    (g : Nat) (hx : a.eval x = .pointer (some ⟨g, 0, none⟩)) (n : Nat) (cs : List Value) (d : TypeDesc) (hr : w.rangeAt g 0 cs) (hf : fv n = .agg cs.toArray)
    (hu : P.underlying ty = some d) (hd : d.isRow = true) (hi : (P.info? ty).map (·.size) = some cs.length)
    (h : wpList P ops Q rest (a.put o.dst (fv n)) w) : wpList P ops Q (o :: rest) a w :=
  wpList_plain hgd fun K hK => by
    have hl := run_loadVar_mid (P := P) w g 0 ty cs d hr hu hd hi
    unfold Oper.wp execOp
    simp only [ho, hx, Instr.loadAt, Instr.sureAddr, Sem.run_bind, Sem.run_pure, Result.andThen_ok, hl]
    rw [← hf]
    exact hK _ _ h

set_option maxHeartbeats 2000000 in
set_option maxRecDepth 100000 in
theorem normR_any (w : World) (x : Nat) (hx : x < 115792089237316195423570985008687907853269984665640564039457584007913129639936) : Calls Try.prog 18 #[modV, fv x] w fun e w' => e = .returned (fv (x % pM)) ∧ Below w.heap.size w w' := by
  obtain ⟨z, hz⟩ : ∃ z, z = x % pM := ⟨_, rfl⟩
  obtain ⟨p, hp⟩ : ∃ p, p = 115792089237316195423570985008687907853269984665640564039457584007908834671663 := ⟨_, rfl⟩
  have hpl : p < 115792089237316195423570985008687907853269984665640564039457584007913129639936 := by omega
  obtain ⟨b, hb⟩ : ∃ b, b = decide (x < p) := ⟨_, rfl⟩
  have cb : ∀ w, Calls Try.prog 37 #[fv x, fv p] w fun e w' => e = .returned (.bool b) ∧ Below w.heap.size w w' := by
    intro w; rw [hb]; exact below_at w x p rfl rfl hx hpl
  have t1 : b = true → z = x := fun h => by
    rw [hb] at h
    rw [hz]
    exact Nat.mod_eq_of_lt (by rw [pM_eq, ← hp]; simpa using h)
  have cm : b = false → ∀ w, Calls Try.prog 38 #[fv x, fv p] w fun e w' => e = .returned (fv z) ∧ Below w.heap.size w w' := fun h w => by
    rw [hb] at h
    have hle : ¬ x < p := by simpa using h
    have hzx : z + p = x := by rw [hz, red_once x hx, if_neg (by omega)]; omega
    exact minusR_at w x p z 0 rfl rfl hx hpl (by omega) (by omega)
  have hpc : fv p = .agg #[.int .u64 18446744069414583343, .int .u64 18446744073709551615, .int .u64 18446744073709551615, .int .u64 18446744073709551615] := by rw [hp]; exact fv_P
  obtain ⟨x0, x1, x2, x3, fx⟩ := words_fv x hx
  have FX := Lib.hid fx
  have FP := Lib.hid hpc
  rw [fx, ← hz]
  unfold modV
  clear fx hpc hx hz hp hpl hb
  go_enter Try.func18, Try.ntmps18
  go_wp2_with (first | ((with_reducible refine here_load (d := some 6) ?_); refine wpList_load_fv rfl _ _ rfl (w.heap.size + 1) rfl (x) _ _ _ ((blk_new2 w _ _ _).alloc _) (FX.out) Try.underlying45 rfl (by kernel_rfl) ?_) | ((with_reducible refine here_load (d := some 8) ?_); refine wpList_load_part rfl _ _ rfl w.heap.size rfl p [.int .u64 18446744069414583343, .int .u64 18446744073709551615, .int .u64 18446744073709551615, .int .u64 18446744073709551615] _ (mod_range (((Blk.new w _ _).alloc _).alloc _)) FP.out Try.underlying45 rfl (by kernel_rfl) ?_))
  refine (cb _).mono ?_
  rintro e w1 ⟨rfl, k1⟩
  have BM : Blk w1 w.heap.size 49 _ := Gr.blk k1 (((Blk.new w _ _).alloc _).alloc _)
  have BX : Blk w1 (w.heap.size + 1) 45 _ := Gr.blk k1 ((blk_new2 w _ _ _).alloc _)
  have BR : Blk w1 (w.heap.size + 2) 45 _ := Gr.blk k1 (blk_new3 w _ _ _ _)
  have hB := Below.gr (below_alloc3 w _ _ _) k1
  clear k1 cb
  cases b
  · have cmm := cm rfl
    clear cm t1
    go_wp2_with (first | ((with_reducible refine here_load (d := some 12) ?_); refine wpList_load_fv rfl _ _ rfl (w.heap.size + 1) rfl (x) _ _ _ (BX) (FX.out) Try.underlying45 rfl (by kernel_rfl) ?_) | ((with_reducible refine here_load (d := some 14) ?_); refine wpList_load_part rfl _ _ rfl w.heap.size rfl p [.int .u64 18446744069414583343, .int .u64 18446744073709551615, .int .u64 18446744073709551615, .int .u64 18446744073709551615] _ (mod_range (BM)) FP.out Try.underlying45 rfl (by kernel_rfl) ?_))
    refine (cmm _).mono ?_
    rintro e w2 ⟨rfl, k2⟩
    have BR2 := Gr.blk k2 BR
    have hB2 := Below.gr hB k2
    clear k2 cmm
    go_wp2_with (first | ((with_reducible refine here_store ?_); refine wpList_store_blk rfl _ _ _ rfl (w.heap.size + 2) (fcs (z)) rfl rfl _ _ (BR2) (by kernel_rfl) (by rfl) (fcs_one _) ?_; intro w9 hL9 hB9 hK9))
    exact bodyPost_ret (results_cell_row rfl _ _ (w.heap.size + 2) _ _ (0, 0) _ rfl hL9 Try.underlying45 rfl (by kernel_rfl)) rfl ⟨rfl, hB2.trans (hB9 _ (by omega))⟩
  · have HZX := Lib.hid (t1 rfl)
    clear t1 cm
    go_wp2_with (first | ((with_reducible refine here_load (d := some 11) ?_); refine wpList_load_fv rfl _ _ rfl (w.heap.size + 1) rfl (x) _ _ _ (BX) (FX.out) Try.underlying45 rfl (by kernel_rfl) ?_) | ((with_reducible refine here_store ?_); refine wpList_store_blk rfl _ _ _ rfl (w.heap.size + 2) (fcs (x)) rfl rfl _ _ (BR) (by kernel_rfl) (by rfl) (fcs_one _) ?_; intro w9 hL9 hB9 hK9))
    exact bodyPost_ret (results_cell_row rfl _ _ (w.heap.size + 2) _ _ (0, 0) _ rfl hL9 Try.underlying45 rfl (by kernel_rfl)) rfl ⟨by rw [HZX.out]; rfl, hB.trans (hB9 _ (by omega))⟩
end Go.Proofs.Ytbofhoonlmikcaa

end
section
namespace Go.Proofs.Ytbofhoonlmikcaa.Sy
open Go.RowKit Go.Proofs.Ytbofhoonlmikcaa

section
variable {P : Program} {w0 : Base} {n : Nat} {Q : Exit → Act → World → Prop} {F : Slots} {L : Blocks} {ops : Array Oper} {o : Oper} {l : List Oper} {ex : Nat → Bool} {fuel : Nat} {listed : Array Bool}
end
end Go.Proofs.Ytbofhoonlmikcaa.Sy

end
section
namespace Go.Proofs.Ytbofhoonlmikcaa.Sy
open Go.RowKit Go.Proofs.Ytbofhoonlmikcaa

/-! ## Rows of equal parts -/
theorem setAll_is : ∀ (vs : List Value) (o : Nat) (cs : Array Value), o + vs.length ≤ cs.size → setAll cs o vs = (cs.toList.take o ++ (vs ++ cs.toList.drop (o + vs.length))).toArray
  | [], o, cs, _ => by simp [setAll, List.take_append_drop]
  | v :: r, o, cs, h => by
    simp only [List.length_cons] at h
    rw [setAll, setAll_is r (o + 1) _ (by simp; omega)]
    congr 1
    have hlt : o < cs.toList.length := by simp; omega
    rw [Array.toList_setIfInBounds, List.take_set, List.take_add_one, List.drop_set_of_lt (by omega), List.getElem?_eq_getElem hlt, List.set_append_right _ _ (by simp; omega)]
    have e : o + 1 + r.length = o + (r.length + 1) := by omega
    simp [Nat.min_eq_left (Nat.le_of_lt (show o < cs.size by omega)), e]
/-- n parts, one behind the other -/
def flat (f : Nat → List Value) (n : Nat) : List Value := (List.range n).flatMap f
section
variable {s : Nat} {f : Nat → List Value}
theorem flat_succ (n : Nat) : flat f (n + 1) = flat f n ++ f n := by simp [flat, List.range_succ]
theorem flat_len (h : ∀ k, (f k).length = s) : ∀ n, (flat f n).length = n * s
  | 0 => by simp [flat]
  | n + 1 => by rw [flat_succ, List.length_append, flat_len h n, h, Nat.succ_mul]
theorem flat_add (k : Nat) : ∀ m, flat f (k + m) = flat f k ++ flat (fun j => f (k + j)) m
  | 0 => by simp [flat]
  | m + 1 => by rw [← Nat.add_assoc, flat_succ, flat_add k m, flat_succ, List.append_assoc]
theorem flat_split {n k : Nat} (hk : k < n) : flat f n = flat f k ++ (f k ++ flat (fun j => f (k + 1 + j)) (n - k - 1)) := by
  obtain ⟨m, rfl⟩ : ∃ m, n = k + 1 + m := ⟨n - k - 1, by omega⟩
  rw [flat_add, flat_succ, List.append_assoc, show k + 1 + m - k - 1 = m by omega]
theorem flat_congr {g : Nat → List Value} {n : Nat} (h : ∀ k, k < n → f k = g k) : flat f n = flat g n := by
  unfold flat
  rw [List.flatMap_def, List.flatMap_def]
  exact congrArg List.flatten (List.map_congr_left fun k hk => h k (List.mem_range.1 hk))
theorem flat_at (h : ∀ k, (f k).length = s) {n k o : Nat} (hk : k < n) (ho : o = k * s) : ((flat f n).drop o).take s = f k := by
  subst ho
  rw [flat_split hk, List.drop_append_of_le_length (by rw [flat_len h]; exact Nat.le_refl _), List.drop_eq_nil_of_le (by rw [flat_len h]; exact Nat.le_refl _), List.nil_append, List.take_append_of_le_length (by rw [h]; exact Nat.le_refl _), List.take_of_length_le (by rw [h]; exact Nat.le_refl _)]
/-- some of a part -/
theorem flat_in (h : ∀ k, (f k).length = s) {n k o e m : Nat} (hk : k < n) (ho : o = k * s + e) (hm : e + m ≤ s) : ((flat f n).drop o).take m = ((f k).drop e).take m := by
  subst ho
  rw [← flat_at h hk rfl, List.drop_take, List.drop_drop, List.take_take, Nat.min_eq_left (by omega)]
theorem flat_set (h : ∀ k, (f k).length = s) {v : List Value} (hv : v.length = s) {n k o : Nat} (hk : k < n) (ho : o = k * s) : setAll (flat f n).toArray o v = (flat (fun j => if j = k then v else f j) n).toArray := by
  subst ho
  have hl := flat_len h (f := f)
  have hks : k * s + s ≤ n * s := by rw [← Nat.succ_mul]; exact Nat.mul_le_mul_right s hk
  rw [setAll_is _ _ _ (by simp [hl, hv]; exact hks)]
  congr 1
  rw [flat_split hk, flat_split (f := fun j => if j = k then v else f j) hk]
  congr 1
  · show (flat f k ++ _).take (k * s) = _
    rw [List.take_append_of_le_length (by rw [hl]; exact Nat.le_refl _), List.take_of_length_le (by rw [hl]; exact Nat.le_refl _)]
    exact flat_congr fun j hj => by rw [if_neg (by omega)]
  · simp only [if_true]
    congr 1
    show (flat f k ++ (f k ++ _)).drop (k * s + v.length) = _
    rw [← List.append_assoc, List.drop_append_of_le_length (by rw [List.length_append, hl, h, hv]; exact Nat.le_refl _), List.drop_eq_nil_of_le (by rw [List.length_append, hl, h, hv]; exact Nat.le_refl _), List.nil_append]
    exact flat_congr fun j hj => by rw [if_neg (by omega)]
theorem flat_one (h : ∀ k, (f k).length = s) (n : Nat) (hf : ∀ k, ∀ u ∈ f k, u.oneCell' = true) : (flat f n).toArray.all (·.oneCell') = true := by
  rw [List.all_toArray, List.all_eq_true]
  intro u hu
  unfold flat at hu
  obtain ⟨k, _, hk⟩ := List.mem_flatMap.1 hu
  exact hf k u hk
/-- nothing but one part, over and over -/
theorem flat_const (c : List Value) (hc : c.length = s) (hs : 0 < s) (n : Nat) (z : Array Value) (hz : z.toList = c) : (flat (fun _ => c) n).toArray = madeCells z (n * s) := by
  have hzs : z.size = s := by rw [← Array.length_toList, hz, hc]
  apply Array.ext'
  unfold madeCells
  apply List.ext_getElem?
  intro i
  rw [Array.toList_map, Array.toList_range, List.getElem?_map]
  by_cases hi : i < n * s
  · have hk : i / s < n := Nat.div_lt_of_lt_mul (by rw [Nat.mul_comm]; exact hi)
    have h := flat_in (s := s) (f := fun _ => c) (fun _ => hc) (n := n) (k := i / s) (o := i) (e := i % s) (m := 1) hk (by rw [Nat.mul_comm]; exact (Nat.div_add_mod i s).symm) (Nat.mod_lt _ hs)
    have h2 := congrArg (·[0]?) h
    simp only [List.getElem?_take, List.getElem?_drop, Nat.zero_lt_one, if_true, Nat.add_zero] at h2
    rw [h2, List.getElem?_range hi]
    have hm : i % s < s := Nat.mod_lt _ hs
    simp only [Option.map_some, hzs]
    rw [← hz]
    simp [hzs, hm]
  · rw [List.getElem?_eq_none (by rw [flat_len (s := s) (fun _ => hc)]; omega), List.getElem?_eq_none (by simp; omega)]
    rfl
end

/-- A's parts up to k, z behind -/
def upto (k : Nat) (A : Nat → List Value) (z : List Value) (j : Nat) : List Value := if j < k then A j else z
section
variable {s n k : Nat} {A : Nat → List Value} {z : List Value}
theorem upto_len (hA : ∀ j, (A j).length = s) (hz : z.length = s) (k : Nat) : ∀ j, (upto k A z j).length = s := fun j => by
  unfold upto
  split
  · exact hA j
  · exact hz
theorem upto_lt {j : Nat} (h : j < k) : upto k A z j = A j := if_pos h
theorem upto_one (hA : ∀ j, ∀ u ∈ A j, u.oneCell' = true) (hz : ∀ u ∈ z, u.oneCell' = true) (k : Nat) : ∀ j, ∀ u ∈ upto k A z j, u.oneCell' = true := fun j u hu => by
  unfold upto at hu
  split at hu
  · exact hA j u hu
  · exact hz u hu
theorem upto_zero : (flat (fun _ => z) n).toArray = (flat (upto 0 A z) n).toArray := congrArg List.toArray (flat_congr fun j _ => by unfold upto; rw [if_neg (by omega)])
theorem upto_all : (flat (upto n A z) n).toArray = (flat A n).toArray := congrArg List.toArray (flat_congr fun j hj => upto_lt hj)
theorem upto_set (hA : ∀ j, (A j).length = s) (hz : z.length = s) {v : List Value} (hv : A k = v) (hk : k < n) {o : Nat} (ho : o = k * s) : setAll (flat (upto k A z) n).toArray o v = (flat (upto (k + 1) A z) n).toArray := by
  rw [flat_set (upto_len hA hz k) (by rw [← hv]; exact hA k) hk ho]
  refine congrArg List.toArray (flat_congr fun j _ => ?_)
  unfold upto
  by_cases e : j = k
  · subst e
    rw [if_pos rfl, if_pos (by omega), hv]
  · rw [if_neg e]
    by_cases h : j < k
    · rw [if_pos h, if_pos (by omega)]
    · rw [if_neg h, if_neg (by omega)]
theorem upto_set1 (hA : ∀ j, (A j).length = 1) {u v : Value} (hv : A k = [v]) (hk : k < n) : (flat (upto k A [u]) n).toArray.setIfInBounds k v = (flat (upto (k + 1) A [u]) n).toArray := by
  have h := upto_set (s := 1) (z := [u]) hA rfl hv hk (Nat.mul_one k).symm
  simpa only [setAll] using h
theorem flat_load {f : Nat → List Value} (h : ∀ j, (f j).length = s) (hk : k < n) {o : Nat} (ho : o = k * s) : Value.agg (((flat f n).toArray.toList.drop o).take s).toArray = .agg (f k).toArray := by
  rw [show (flat f n).toArray.toList = flat f n from rfl, flat_at h hk ho]
theorem flat_fit {f : Nat → List Value} (h : ∀ j, (f j).length = s) (hk : k < n) {o : Nat} (ho : o = k * s) : o + s ≤ (flat f n).toArray.size := by
  have hks : k * s + s ≤ n * s := by rw [← Nat.succ_mul]; exact Nat.mul_le_mul_right s hk
  rw [List.size_toArray, flat_len h]
  omega
end

section
variable {s n m : Nat} {f : Nat → List Value}
theorem flat_whole (h : ∀ j, (f j).length = s) (hm : n * s = m) : Value.agg (((flat f n).toArray.toList.drop 0).take m).toArray = .agg (flat f n).toArray := by
  rw [show (flat f n).toArray.toList = flat f n from rfl, List.drop_zero, List.take_of_length_le (by rw [flat_len h, hm]; exact Nat.le_refl _)]
theorem flat_wsize (h : ∀ j, (f j).length = s) (hm : n * s = m) : 0 + m ≤ (flat f n).toArray.size := by
  rw [List.size_toArray, flat_len h]; omega
theorem flat_info (h : ∀ j, (f j).length = s) {x : Option Nat} (hx : x = some (n * s)) : x = some (flat f n).toArray.size := by
  rw [hx, List.size_toArray, flat_len h]
theorem flat_over (h : ∀ j, (f j).length = s) (hm : n * s = m) {cs : Array Value} (hc : cs.size = m) : 0 + (flat f n).toArray.size ≤ cs.size := by
  rw [List.size_toArray, flat_len h]; omega
theorem flat_put (h : ∀ j, (f j).length = s) {cs : Array Value} (hc : cs.size = n * s) : setAll cs 0 (flat f n).toArray.toList = (flat f n).toArray := by
  have hl : (flat f n).toArray.toList.length = cs.size := by
    rw [hc]
    exact flat_len h n
  rw [setAll_is _ _ _ (by omega), List.take_zero, List.drop_eq_nil_of_le (by rw [Array.length_toList]; omega)]
  simp
theorem flat_lt1 (h : ∀ j, (f j).length = 1) {k o : Nat} (hk : k < n) (ho : o = k * 1) : o < (flat f n).toArray.size := by
  rw [List.size_toArray, flat_len h]; omega
end

section
variable {P : Program} {w0 : Base} {n : Nat} {Q : Exit → Act → World → Prop} {F : Slots} {L : Blocks} {ops : Array Oper} {o : Oper} {l : List Oper}

/-- a part of a block -/
theorem blk_range {w : World} {g : Nat} {t : TypeId} {cs : Array Value} (h : Blk w g t cs) {o : Nat} {vs : List Value} (e : (cs.toList.drop o).take vs.length = vs) : w.rangeAt g o vs := fun j v hj => by
  rw [h.cell]
  rw [← e] at hj
  have hlt : j < vs.length := by
    have h := (List.getElem?_eq_some_iff.1 hj).1
    rw [List.length_take] at h
    exact Nat.lt_of_lt_of_le h (Nat.min_le_left _ _)
  rw [List.getElem?_take_of_lt hlt, List.getElem?_drop] at hj
  simpa using hj
theorem range_left {w : World} {g o : Nat} {a b : List Value} (h : w.rangeAt g o (a ++ b)) : w.rangeAt g o a := fun j v hj => h j v (by rw [List.getElem?_append_left (List.getElem?_eq_some_iff.1 hj).1]; exact hj)
theorem range_right {w : World} {g o n : Nat} {a b : List Value} (h : w.rangeAt g o (a ++ b)) (hn : a.length = n) : w.rangeAt g (o + n) b := fun j v hj => by
  rw [Nat.add_assoc]
  refine h (n + j) v ?_
  rw [List.getElem?_append_right (by omega), show n + j - a.length = j by omega]
  exact hj
theorem range_flat {w : World} {g o n s k : Nat} {f : Nat → List Value} (h : w.rangeAt g o (flat f n)) (hs : ∀ j, (f j).length = s) (hk : k < n) : w.rangeAt g (o + k * s) (f k) := fun j v hj => by
  rw [Nat.add_assoc]
  refine h (k * s + j) v ?_
  have e := flat_at hs hk rfl
  rw [← e] at hj
  have hlt : j < s := by
    have h := (List.getElem?_eq_some_iff.1 hj).1
    rw [List.length_take] at h
    exact Nat.lt_of_lt_of_le h (Nat.min_le_left _ _)
  rw [List.getElem?_take_of_lt hlt, List.getElem?_drop] at hj
  exact hj

/-! ## Numbers that are not written out -/
theorem exec_int (op : BinOp) (t : TypeId) (x y : Operand) {yt : TypeId} (k : IntKind) {k' : IntKind} (a b : Int) (v : Value) (ho : o.op = .binOp op t x y yt) (hx : evF F x = .int k a) (hy : evF F y = .int k' b) (h : ∀ w, (binOp op t (.int k a) (.int k' b)).run P w = .ok v w) (w : World) :
    (execOp (evF F) o).run P w = .ok (.value v) w := by
  have h1 : (eqGuard op t x y (.int k a) (.int k' b)).run P w = .ok () w := by
    unfold eqGuard
    cases op <;> rfl
  unfold execOp
  simp only [ho, hx, hy, Sem.run_bind, h1, h w, Result.andThen_ok, Sem.run_pure]
theorem wrap_i64 {z : Int} (h0 : -9223372036854775808 ≤ z) (h1 : z < 9223372036854775808) : IntKind.i64.wrap z = z := by
  unfold IntKind.wrap; simp [IntKind.bits, IntKind.signed]; omega
theorem wrap_u64 {z : Int} (h0 : 0 ≤ z) (h1 : z < 18446744073709551616) : IntKind.u64.wrap z = z := by
  unfold IntKind.wrap; simp [IntKind.bits, IntKind.signed]; omega
theorem int_add (t : TypeId) (k : IntKind) (a b c : Int) (h : k.wrap (a + b) = c) (w : World) : (binOp .add t (.int k a) (.int k b)).run P w = .ok (.int k c) w := by simp [binOp, Op.intArith, h]
theorem int_sub (t : TypeId) (k : IntKind) (a b c : Int) (h : k.wrap (a - b) = c) (w : World) : (binOp .sub t (.int k a) (.int k b)).run P w = .ok (.int k c) w := by simp [binOp, Op.intArith, h]
theorem int_mul (t : TypeId) (k : IntKind) (a b c : Int) (h : k.wrap (a * b) = c) (w : World) : (binOp .mul t (.int k a) (.int k b)).run P w = .ok (.int k c) w := by simp [binOp, Op.intArith, h]
theorem int_quo (t : TypeId) (k : IntKind) (a b c : Int) (hb : b ≠ 0) (h : k.wrap (a.tdiv b) = c) (w : World) : (binOp .quo t (.int k a) (.int k b)).run P w = .ok (.int k c) w := by simp [binOp, Op.intDiv, hb, h]
theorem int_and (t : TypeId) (k : IntKind) (a b c : Int) (h : k.wrap ((BitVec.ofInt k.bits a &&& BitVec.ofInt k.bits b).toNat : Int) = c) (w : World) : (binOp .and t (.int k a) (.int k b)).run P w = .ok (.int k c) w := by
  simp only [binOp, ne_eq, not_true_eq_false, if_false, Op.intBits, Sem.run_pure]
  rw [h]
theorem int_shr (t : TypeId) (k k' : IntKind) (a b c : Int) (hb : ¬ b < 0) (h : a.fdiv (2 ^ min b.toNat k.bits) = c) (w : World) : (binOp .shr t (.int k a) (.int k' b)).run P w = .ok (.int k c) w := by
  simp only [binOp, Op.shift, if_neg hb, Sem.run_pure, h]
theorem int_lss (t : TypeId) (k : IntKind) (a b : Int) (c : Bool) (h : decide (a < b) = c) (w : World) : (binOp .lss t (.int k a) (.int k b)).run P w = .ok (.bool c) w := by simp [binOp, Op.intCmp, ← h]
theorem int_gtr (t : TypeId) (k : IntKind) (a b : Int) (c : Bool) (h : decide (a > b) = c) (w : World) : (binOp .gtr t (.int k a) (.int k b)).run P w = .ok (.bool c) w := by simp [binOp, Op.intCmp, ← h]
theorem int_neq (t : TypeId) (k : IntKind) (a b : Int) (c : Bool) (h : decide (a ≠ b) = c) (w : World) : (binOp .neq t (.int k a) (.int k b)).run P w = .ok (.bool c) w := by
  simp only [binOp, ne_eq, not_true_eq_false, if_false, Op.intCmp, Sem.run_pure, ← h]
  by_cases e : a = b <;> simp [e]
/-- an element of a slice -/
theorem exec_at (t e : TypeId) (x kx : Operand) (g f len cap k s : Nat) (ki : IntKind) (ho : o.op = .indexAddr t x kx) (hx : evF F x = .slice (some ⟨g, f, none⟩) len cap) (hkx : evF F kx = .int ki (k : Int)) (ht : P.underlying t = some (.slice e)) (hsz : ∀ w, (sizeOf e).run P w = .ok s w) (hk : k < len) (w : World) :
    (execOp (evF F) o).run P w = .ok (.value (.pointer (some ⟨g, f + k * s, none⟩))) w := by
  have h0 : (0 : Int) ≤ k := by omega
  have h1 : ((k : Int).toNat) = k := by omega
  unfold execOp
  simp [ho, hx, hkx, Instr.indexAt, asIntOf, run_underlying ht, hsz, h0, hk, addr_off, Result.andThen]
/-- .. of an array, by the array's address -/
theorem exec_atA (t e : TypeId) (x kx : Operand) (g f m k s : Nat) (ki : IntKind) (ho : o.op = .indexAddr t x kx) (hx : evF F x = .pointer (some ⟨g, f, none⟩)) (hkx : evF F kx = .int ki (k : Int)) (ht : P.underlying t = some (.array m e)) (hsz : ∀ w, (sizeOf e).run P w = .ok s w) (hk : k < m) (w : World) :
    (execOp (evF F) o).run P w = .ok (.value (.pointer (some ⟨g, f + k * s, none⟩))) w := by
  have h0 : (0 : Int) ≤ k := by omega
  unfold execOp
  simp [ho, hx, hkx, Instr.indexAt, asIntOf, run_underlying ht, hsz, h0, hk, addr_off, Result.andThen, Instr.sureAddr]
/-- a slice of a slice: from lo on -/
theorem exec_sl1 (t : TypeId) (x lx : Operand) (g f len cap lo s : Nat) (kl : IntKind) (ho : o.op = .slice t x (some lx) none none) (hx : evF F x = .slice (some ⟨g, f, none⟩) len cap) (hl : evF F lx = .int kl (lo : Int)) (ht : P.underlying t = some (.slice (P.elem t))) (hsz : ∀ w, (sizeOf (P.elem t)).run P w = .ok s w) (h1 : lo ≤ len) (h2 : lo < cap) (w : World) :
    (execOp (evF F) o).run P w = .ok (.value (.slice (some ⟨g, f + lo * s, none⟩) (len - lo) (cap - lo))) w := by
  have hne : ¬ cap = lo := by omega
  have e : (Instr.sliceAt t (.slice (some ⟨g, f, none⟩) len cap) (some (.int kl (lo : Int))) none none).run P w = .ok (.slice (some ⟨g, f + lo * s, none⟩) (len - lo) (cap - lo)) w := by
    rw [run_sliceAt_slice w t _ _ _ _ ht, run_slice_l w t (some ⟨g, f, none⟩) len cap ht kl lo (by omega) (by omega)]
    simp [hsz, sliced, hne, addr_off, Result.andThen]
  unfold execOp
  simp only [ho, hx, hl, Option.map_some, Option.map_none, e, Sem.run_bind, Sem.run_pure, Result.andThen_ok]
/-- .. from lo to hi, up to mx -/
theorem exec_sl3 (t : TypeId) (x lx hx' mx' : Operand) (g f len cap lo hi mx s : Nat) (kl kh km : IntKind) (ho : o.op = .slice t x (some lx) (some hx') (some mx')) (hx : evF F x = .slice (some ⟨g, f, none⟩) len cap) (hl : evF F lx = .int kl (lo : Int)) (hh : evF F hx' = .int kh (hi : Int)) (hm : evF F mx' = .int km (mx : Int)) (ht : P.underlying t = some (.slice (P.elem t))) (hsz : ∀ w, (sizeOf (P.elem t)).run P w = .ok s w)
    (h1 : lo ≤ hi) (h2 : hi ≤ mx) (h3 : mx ≤ cap) (h4 : lo < mx) (w : World) : (execOp (evF F) o).run P w = .ok (.value (.slice (some ⟨g, f + lo * s, none⟩) (hi - lo) (mx - lo))) w := by
  have hne : ¬ mx = lo := by omega
  have e : (Instr.sliceAt t (.slice (some ⟨g, f, none⟩) len cap) (some (.int kl (lo : Int))) (some (.int kh (hi : Int))) (some (.int km (mx : Int)))).run P w = .ok (.slice (some ⟨g, f + lo * s, none⟩) (hi - lo) (mx - lo)) w := by
    rw [run_sliceAt_slice w t _ _ _ _ ht, run_slice_lhm w t (some ⟨g, f, none⟩) len cap ht kl kh km lo hi mx (by omega) (by omega) (by omega) (by omega)]
    simp [hsz, sliced, hne, addr_off, Result.andThen]
  unfold execOp
  simp only [ho, hx, hl, hh, hm, Option.map_some, e, Sem.run_bind, Sem.run_pure, Result.andThen_ok]
/-- the lesser of two -/
theorem exec_min (x y : Operand) {ts : Array TypeId} (k : IntKind) (a b c : Nat) (ho : o.op = .call { callee := .builtin .min, args := #[x, y], argTypes := ts }) (hx : evF F x = .int k (a : Int)) (hy : evF F y = .int k (b : Int)) (h : min a b = c) (w : World) : (execOp (evF F) o).run P w = .ok (.value (.int k (c : Int))) w := by
  have e : (if (b : Int) < (a : Int) then (b : Int) else (a : Int)) = (c : Int) := by split <;> omega
  unfold execOp
  simp [ho, hx, hy, resolve, invoke, builtin, Builtin.min_, Builtin.min2, Sem.run_bind, Result.andThen]
  omega
/-- a cell of an array's value -/
theorem exec_idx (t e : TypeId) (x kx : Operand) (cs : Array Value) (m k : Nat) (ki : IntKind) (d : TypeDesc) (c : Value) (ho : o.op = .index t x kx) (hx : evF F x = .agg cs) (hkx : evF F kx = .int ki (k : Int)) (ht : P.underlying t = some (.array m e)) (he : P.underlying e = some d) (hd : d.isRow = false) (hsz : ∀ w, (sizeOf e).run P w = .ok 1 w) (hk : k < m) (hc : cs[k]? = some c) (w : World) :
    (execOp (evF F) o).run P w = .ok (.value c) w := by
  have h0 : (0 : Int) ≤ k := by omega
  have ha : (isAgg e).run P w = .ok false w := by
    cases d <;> first | (cases hd; done) | simp [isAgg, underlying, he]
  have pc : (part e cs ((k : Int).toNat * 1)).run P w = .ok c w := by
    simp [part, ha, hc, Result.andThen]
  unfold execOp
  simp only [ho, hx, hkx, Instr.index, asIntOf, Sem.run_bind, Sem.run_pure, Result.andThen_ok, run_underlying ht]
  rw [if_pos ⟨by omega, by omega⟩]
  simp only [Sem.run_bind, hsz, Result.andThen_ok, pc, Sem.run_pure]

/-! ## Loops by what is known at their heads -/
/-- what a round hands on -/
def NextX {T : Type} (w0 : Base) (n N : Nat) (FF : Nat → T → Slots) (LL : Nat → T → Blocks) (H : Nat → T → Prop) (k : Nat) : Act → World → Prop := fun a w => k < N ∧ ∃ y, H (k + 1) y ∧ Fr w0.ds a n (FF (k + 1) y) ∧ St w0 w (LL (k + 1) y)
theorem loopX {T : Type} {c : Code} (N : Nat) (FF : Nat → T → Slots) (LL : Nat → T → Blocks) (H : Nat → T → Prop) (x0 : T) (m : List Bool) (h0 : H 0 x0) (hF : ∀ p ∈ FF 0 x0, F.lookup p.1 = some p.2) (hL : sel L m = LL 0 x0)
    (hr : ∀ k x, k ≤ N → H k x → wpC P w0 n (Exit.then (NextX w0 n N FF LL H k) Q) (FF k x) (LL k x) c) : wpC P w0 n Q F L (.loop c) :=
  loopI N (fun k a w => ∃ x, H k x ∧ Fr w0.ds a n (FF k x) ∧ St w0 w (LL k x)) (fun _ _ ha hw => ⟨x0, h0, ha.all hF, hL ▸ hw.less (sel_sub L m)⟩)
    fun k hk a w ⟨x, hx, ha, hw⟩ => hr k x hk hx a w ha hw
theorem againX {T : Type} {N : Nat} {FF : Nat → T → Slots} {LL : Nat → T → Blocks} {H : Nat → T → Prop} {k : Nat} {R : Exit → Act → World → Prop} (y : T) (m : List Bool) (hk : k < N) (hy : H (k + 1) y) (hF : ∀ p ∈ FF (k + 1) y, F.lookup p.1 = some p.2) (hL : sel L m = LL (k + 1) y) :
    X w0 n (Exit.then (NextX w0 n N FF LL H k) R) F L .normal := fun _ _ ha hw => ⟨hk, y, hy, ha.all hF, hL ▸ hw.less (sel_sub L m)⟩

/-- .. where all that is known hangs on the round's number alone -/
def NextK (w0 : Base) (n N : Nat) (FF : Nat → Slots) (LL : Nat → Blocks) (k : Nat) : Act → World → Prop := fun a w => k < N ∧ Fr w0.ds a n (FF (k + 1)) ∧ St w0 w (LL (k + 1))
theorem loopK {c : Code} (N : Nat) (FF : Nat → Slots) (LL : Nat → Blocks) (m : List Bool) {M : Blocks} (hF : ∀ p ∈ FF 0, F.lookup p.1 = some p.2) (hL : sel L m = M) (hM : M = LL 0)
    (hr : ∀ k, k ≤ N → wpC P w0 n (Exit.then (NextK w0 n N FF LL k) Q) (FF k) (LL k) c) : wpC P w0 n Q F L (.loop c) :=
  loopI N (fun k a w => Fr w0.ds a n (FF k) ∧ St w0 w (LL k)) (fun _ _ ha hw => ⟨ha.all hF, hM ▸ hL ▸ hw.less (sel_sub L m)⟩)
    fun k hk a w ⟨ha, hw⟩ => hr k hk a w ha hw
theorem againK {N : Nat} {FF : Nat → Slots} {LL : Nat → Blocks} {k : Nat} {R : Exit → Act → World → Prop} (m : List Bool) {M : Blocks} (hk : k < N) (hF : ∀ p ∈ FF (k + 1), F.lookup p.1 = some p.2) (hL : sel L m = M) (hM : M = LL (k + 1)) :
    X w0 n (Exit.then (NextK w0 n N FF LL k) R) F L .normal := fun _ _ ha hw => ⟨hk, ha.all hF, hM ▸ hL ▸ hw.less (sel_sub L m)⟩
theorem bcons {x y : Nat × TypeId × Array Value} {l m : Blocks} (h : x = y) (k : l = m) : x :: l = y :: m := by rw [h, k]
theorem beq {g : Nat} {t : TypeId} {a b : Array Value} (h : a = b) : (g, t, a) = (g, t, b) := by rw [h]

/-! ## More operations -/
/-- a slice that is made -/
theorem Makes.slice (t e : TypeId) (i : TypeInfo) (z : Value) (s b : Nat) (x y : Operand) (kl kc : IntKind) (m : Nat) (c : List Value) (ho : o.op = .makeSlice t x y) (hx : evF F x = .int kl (m : Int)) (hy : evF F y = .int kc (m : Int)) (ht : P.underlying t = some (.slice e)) (hi : P.info? e = some i) (hz : i.zero = some z) (hs : i.size = s) (hs0 : 0 < s) (hb : i.bytes = b)
    (hc : z.cells.toList = c) (hcl : c.length = s) (hbytes : b * m ≤ 281474976710656) (h63 : m ≤ 9223372036854775807) : Makes P F o e (flat (fun _ => c) m).toArray (fun g => .slice (some ⟨g, 0, none⟩) m m) := fun w => by
  subst hs hb
  have hb : (i.bytes : Int) * (m : Int) ≤ 281474976710656 := by
    have h : ((i.bytes * m : Nat) : Int) ≤ 281474976710656 := by omega
    rwa [Int.natCast_mul] at h
  have hr := run_make (P := P) w t e i z ht hi hz kl kc m m (by omega) (Int.le_refl _) hb (by omega)
  simp only [Int.toNat_natCast] at hr
  unfold execOp
  simp only [ho, hx, hy, Sem.run_bind, Sem.run_pure, hr, Result.andThen_ok]
  rw [flat_const c hcl hs0 m z.cells hc]
end
end Go.Proofs.Ytbofhoonlmikcaa.Sy

end
section
namespace Go.Proofs.Ytbofhoonlmikcaa.Fz
open Go.RowKit Go.Lib Go.Proofs.Ytbofhoonlmikcaa Go.Proofs.Ytbofhoonlmikcaa.Sy

/-- the number of a row's first n words -/
def vR (R : Nat → Nat) : Nat → Nat
  | 0 => 0
  | n + 1 => vR R n + R n * 18446744073709551616 ^ n
def upd (R : Nat → Nat) (k y : Nat) : Nat → Nat := fun t => if t = k then y else R t
theorem upd_ne {R : Nat → Nat} {k y t : Nat} (h : t ≠ k) : upd R k y t = R t := if_neg h
theorem upd_lt {R : Nat → Nat} {k y : Nat} (h : ∀ t, R t < 18446744073709551616) (hy : y < 18446744073709551616) (t : Nat) : upd R k y t < 18446744073709551616 := by
  unfold upd
  split
  · exact hy
  · exact h t
theorem vR_same {R S : Nat → Nat} : ∀ n, (∀ t, t < n → R t = S t) → vR R n = vR S n
  | 0, _ => rfl
  | n + 1, h => by
    show vR R n + _ = vR S n + _
    rw [vR_same n fun t ht => h t (by omega), h n (by omega)]
theorem vR_upd (R : Nat → Nat) (k y : Nat) : ∀ n, k < n → vR (upd R k y) n + R k * 18446744073709551616 ^ k = vR R n + y * 18446744073709551616 ^ k
  | 0, h => absurd h (Nat.not_lt_zero _)
  | n + 1, h => by
    show vR (upd R k y) n + upd R k y n * _ + _ = vR R n + R n * _ + _
    by_cases e : k = n
    · subst e
      rw [show upd R k y k = y from if_pos rfl, vR_same (R := upd R k y) (S := R) k fun t ht => if_neg (by omega)]
      omega
    · have h2 := vR_upd R k y n (by omega)
      rw [show upd R k y n = R n from if_neg (by omega)]
      omega
theorem vR_lt {R : Nat → Nat} (h : ∀ t, R t < 18446744073709551616) : ∀ n, vR R n < 18446744073709551616 ^ n
  | 0 => Nat.one_pos
  | n + 1 => by
    have h1 := vR_lt h n
    have h2 := h n
    show vR R n + R n * _ < _
    rw [Nat.pow_succ]
    have h3 : (R n + 1) * 18446744073709551616 ^ n ≤ 18446744073709551616 * 18446744073709551616 ^ n := Nat.mul_le_mul_right _ h2
    rw [Nat.add_mul, Nat.one_mul] at h3
    rw [Nat.mul_comm (18446744073709551616 ^ n)]
    omega
theorem vR_split (R : Nat → Nat) (a : Nat) : ∀ n, vR R (a + n) = vR R a + vR (fun t => R (a + t)) n * 18446744073709551616 ^ a
  | 0 => by
    show vR R a = vR R a + 0 * _
    rw [Nat.zero_mul, Nat.add_zero]
  | n + 1 => by
    show vR R (a + n) + R (a + n) * 18446744073709551616 ^ (a + n) = vR R a + (vR _ n + R (a + n) * _) * _
    rw [vR_split R a n, Nat.add_mul, Nat.mul_assoc, ← Nat.pow_add, Nat.add_comm n a, Nat.add_assoc]
theorem vR_zero : ∀ n, vR (fun _ => 0) n = 0
  | 0 => rfl
  | n + 1 => by
    show vR _ n + 0 * _ = 0
    rw [vR_zero n, Nat.zero_mul]
/-- the first k words of a row, nothing behind -/
def cpy (R : Nat → Nat) (k : Nat) : Nat → Nat := fun t => if t < k then R t else 0
theorem cpy_lt {R : Nat → Nat} (h : ∀ t, R t < 18446744073709551616) (k t : Nat) : cpy R k t < 18446744073709551616 := by
  unfold cpy
  split
  · exact h t
  · decide
theorem cpy_succ (R : Nat → Nat) (k : Nat) : upd (cpy R k) k (R k) = cpy R (k + 1) := by
  funext t
  unfold upd cpy
  by_cases e : t = k
  · rw [if_pos e, if_pos (by omega), e]
  · rw [if_neg e]
    by_cases l : t < k
    · rw [if_pos l, if_pos (by omega)]
    · rw [if_neg l, if_neg (by omega)]
theorem vR_cpy (R : Nat → Nat) : vR (cpy R 4) 8 = vR R 4 := by
  rw [show (8 : Nat) = 4 + 4 from rfl, vR_split, vR_same (R := cpy R 4) (S := R) 4 (fun t ht => if_pos ht), vR_same (R := fun t => cpy R 4 (4 + t)) (S := fun _ => 0) 4 (fun t _ => if_neg (by omega)), vR_zero, Nat.zero_mul, Nat.add_zero]
def rw8 (R : Nat → Nat) : Array Value := #[.int .u64 ((R 0 : Nat) : Int), .int .u64 ((R 1 : Nat) : Int), .int .u64 ((R 2 : Nat) : Int), .int .u64 ((R 3 : Nat) : Int), .int .u64 ((R 4 : Nat) : Int), .int .u64 ((R 5 : Nat) : Int), .int .u64 ((R 6 : Nat) : Int), .int .u64 ((R 7 : Nat) : Int)]
theorem eight {k : Nat} (h : k < 8) : k = 0 ∨ k = 1 ∨ k = 2 ∨ k = 3 ∨ k = 4 ∨ k = 5 ∨ k = 6 ∨ k = 7 := by omega
theorem rw8_at (R : Nat → Nat) {k o : Nat} (h : k < 8) (ho : o = k) : (rw8 R)[o]? = some (.int .u64 ((R k : Nat) : Int)) := by
  subst ho
  rcases eight h with rfl | rfl | rfl | rfl | rfl | rfl | rfl | rfl <;> rfl
theorem rw8_set (R : Nat → Nat) (y : Nat) {k o : Nat} (h : k < 8) (ho : o = k) : (rw8 R).setIfInBounds o (.int .u64 ((y : Nat) : Int)) = rw8 (upd R k y) := by
  subst ho
  rcases eight h with rfl | rfl | rfl | rfl | rfl | rfl | rfl | rfl <;> rfl
theorem rw8_fit (R : Nat → Nat) {k o : Nat} (h : k < 8) (ho : o = k) : o < (rw8 R).size := by
  subst ho
  exact h
/-- a modulus, and what it lacks to 2^256 -/
def modc (M : Nat) (lw : Nat → Nat) : Array Value := ((fcs M).toList ++ ([.int .u64 ((lw 0 : Nat) : Int), .int .u64 ((lw 1 : Nat) : Int), .int .u64 ((lw 2 : Nat) : Int)] : List Value)).toArray
theorem modc_at (M : Nat) (lw : Nat → Nat) {j o : Nat} (h : j < 3) (ho : o = 4 + j) : (modc M lw)[o]? = some (.int .u64 ((lw j : Nat) : Int)) := by
  subst ho
  have : j = 0 ∨ j = 1 ∨ j = 2 := by omega
  rcases this with rfl | rfl | rfl <;> rfl
/-- a number's words -/
def wd (x : Nat) (t : Nat) : Nat := x / 18446744073709551616 ^ t % 18446744073709551616
theorem wd_lt (x t : Nat) : wd x t < 18446744073709551616 := Nat.mod_lt _ (by decide)
theorem wd_all (x : Nat) : ∀ n, vR (wd x) n = x % 18446744073709551616 ^ n
  | 0 => by rw [Nat.pow_zero, Nat.mod_one]; rfl
  | n + 1 => by
    show vR (wd x) n + wd x n * _ = _
    rw [wd_all x n, Nat.mod_pow_succ, Nat.mul_comm]
    rfl
theorem fcs_at (x : Nat) {k o : Nat} (h : k < 4) (ho : o = k) : (fcs x)[o]? = some (.int .u64 ((wd x k : Nat) : Int)) := by
  subst ho
  have : o = 0 ∨ o = 1 ∨ o = 2 ∨ o = 3 := by omega
  have e0 : wd x 0 = x % 18446744073709551616 := by unfold wd; rw [Nat.pow_zero, Nat.div_one]
  have e1 : wd x 1 = x / 18446744073709551616 % 18446744073709551616 := by unfold wd; rw [Nat.pow_one]
  rcases this with rfl | rfl | rfl | rfl
  · rw [e0]; rfl
  · rw [e1]; rfl
  · rfl
  · rfl
theorem row_fv {R : Nat → Nat} (h : ∀ t, R t < 18446744073709551616) : Value.agg #[.int .u64 ((R 0 : Nat) : Int), .int .u64 ((R 1 : Nat) : Int), .int .u64 ((R 2 : Nat) : Int), .int .u64 ((R 3 : Nat) : Int)] = fv (vR R 4) := by
  rw [fv_mk _ _ _ _ (h 0) (h 1) (h 2) (h 3)]
  congr 1
  show _ = 0 + R 0 * 1 + R 1 * 18446744073709551616 + R 2 * 340282366920938463463374607431768211456 + R 3 * 6277101735386680763835789423207666416102355444464034512896
  omega
/-- one step: a product, what stands there, what is carried -/
theorem stepZ {hi lo x k y l e d r c : Nat} (h1 : lo + 18446744073709551616 * hi = e * d) (h2 : x + 18446744073709551616 * k = lo + r) (h3 : y + 18446744073709551616 * l = x + c) : y + 18446744073709551616 * (hi + k + l) = e * d + r + c := by omega
theorem carryZ {hi k l y e d r c : Nat} (h : y + 18446744073709551616 * (hi + k + l) = e * d + r + c) (he : e < 18446744073709551616) (hd : d < 18446744073709551616) (hr : r < 18446744073709551616) (hc : c < 18446744073709551616) : hi + k + l < 18446744073709551616 := by
  have h2 : e * d ≤ 18446744073709551615 * 18446744073709551615 := Nat.mul_le_mul (by omega) (by omega)
  omega
theorem innerZ {v v' r P c c' y e d V LS Bi P0 : Nat} (h1 : v' + r * P = v + y * P) (h2 : v + c * P = V + e * LS * Bi) (h3 : y + 18446744073709551616 * c' = e * d + r + c) (hp : P = P0 * Bi) : v' + c' * (P * 18446744073709551616) = V + e * (LS + d * P0) * Bi := by
  grind
theorem carry2 {v v' r P c l x V : Nat} (h1 : v' + r * P = v + x * P) (h2 : v + c * P = V) (h3 : x + 18446744073709551616 * l = r + c) : v' + l * (P * 18446744073709551616) = V := by
  grind
theorem or_nat (a b : Nat) (ha : a < 18446744073709551616) (hb : b < 18446744073709551616) : IntKind.u64.wrap ((BitVec.ofInt IntKind.u64.bits (a : Int) ||| BitVec.ofInt IntKind.u64.bits (b : Int)).toNat : Int) = ((a ||| b : Nat) : Int) := by
  have hl : a ||| b < 18446744073709551616 := Nat.or_lt_two_pow (n := 64) ha hb
  have hw2 : (BitVec.ofInt 64 (a : Int) ||| BitVec.ofInt 64 (b : Int)).toNat = a ||| b := by
    rw [BitVec.toNat_or]
    simp only [BitVec.ofInt_natCast, BitVec.toNat_ofNat]
    rw [Nat.mod_eq_of_lt (by omega), Nat.mod_eq_of_lt (by omega)]
  show IntKind.u64.wrap ((BitVec.ofInt 64 (a : Int) ||| BitVec.ofInt 64 (b : Int)).toNat : Int) = _
  rw [hw2, wrap_u64 (by omega) (by omega)]
theorem int_or {P : Program} (t : TypeId) (k : IntKind) (a b c : Int) (h : k.wrap ((BitVec.ofInt k.bits a ||| BitVec.ofInt k.bits b).toNat : Int) = c) (w : World) : (binOp .or t (.int k a) (.int k b)).run P w = .ok (.int k c) w := by
  simp only [binOp, ne_eq, not_true_eq_false, if_false, Op.intBits, Sem.run_pure]
  rw [h]
theorem mulZ_any (w : World) (x y hi lo : Nat) (hx : x < 18446744073709551616) (hy : y < 18446744073709551616) (hlo : lo < 18446744073709551616) (he : lo + 18446744073709551616 * hi = x * y) :
    Calls Try.prog 64 #[.int .u64 ((x : Nat) : Int), .int .u64 ((y : Nat) : Int)] w (Gets w (.tuple #[.int .u64 ((hi : Nat) : Int), .int .u64 ((lo : Nat) : Int)])) :=
  (mul64_at w x y hi lo hx hy hlo he).mono fun e w' ⟨h1, h2⟩ => ⟨h1, by rw [h2]; exact Below.refl _ _⟩
theorem two_words (x y : Nat) : ∃ hi lo : Nat, lo < 18446744073709551616 ∧ lo + 18446744073709551616 * hi = x * y := ⟨x * y / 18446744073709551616, x * y % 18446744073709551616, Nat.mod_lt _ (by decide), Nat.mod_add_div _ _⟩
end Go.Proofs.Ytbofhoonlmikcaa.Fz

end
section
namespace Go.Proofs.Ytbofhoonlmikcaa.Fz
open Go.RowKit Go.Lib Go.Proofs.Ytbofhoonlmikcaa Go.Proofs.Ytbofhoonlmikcaa.Sy

theorem or_zero {y : Nat → Nat} (h : ¬ (((y 4 ||| y 5) ||| y 6) ||| y 7 > 0)) : y 4 = 0 ∧ y 5 = 0 ∧ y 6 = 0 ∧ y 7 = 0 := by
  have h0 : ((y 4 ||| y 5) ||| y 6) ||| y 7 = 0 := by omega
  rw [Nat.or_eq_zero_iff, Nat.or_eq_zero_iff, Nat.or_eq_zero_iff] at h0
  exact ⟨h0.1.1.1, h0.1.1.2, h0.1.2, h0.2⟩
theorem vR_hi (y : Nat → Nat) : vR (fun t => y (4 + t)) 4 = 0 + y 4 * 1 + y 5 * 18446744073709551616 + y 6 * 340282366920938463463374607431768211456 + y 7 * 6277101735386680763835789423207666416102355444464034512896 := rfl
theorem vR_lowN {y : Nat → Nat} (n k : Nat) (hn : n = k + k) (e : vR (fun t => y (k + t)) k = 0) : vR y n = vR y k := by
  subst hn
  have s := vR_split y k k
  rw [e, Nat.zero_mul, Nat.add_zero] at s
  exact s
theorem vR_low {y : Nat → Nat} (h : y 4 = 0 ∧ y 5 = 0 ∧ y 6 = 0 ∧ y 7 = 0) : vR y 8 = vR y 4 := vR_lowN 8 4 rfl (by
  rw [vR_hi]
  obtain ⟨h1, h2, h3, h4⟩ := h
  omega)
theorem outerZ {M : Nat} {lw y z : Nat → Nat} (_ : ∀ t, lw t < 18446744073709551616) (hM0 : 0 < M) (hM : M + vR lw 3 = 18446744073709551616 ^ 4) (_ : ∀ t, y t < 18446744073709551616) (h : vR z 8 = vR y 4 + vR (fun t => y (4 + t)) 4 * vR lw 3) (ho : ((y 4 ||| y 5) ||| y 6) ||| y 7 > 0) : vR z 8 % M = vR y 8 % M ∧ vR z 8 < vR y 8 := by
  have e : vR y 8 = vR z 8 + vR (fun t => y (4 + t)) 4 * M := by
    rw [show (8 : Nat) = 4 + 4 from rfl, vR_split y, ← hM, show (4 + 4 : Nat) = 8 from rfl, h, Nat.mul_add]
    omega
  have hp : 0 < vR (fun t => y (4 + t)) 4 := by
    rw [vR_hi]
    rcases Nat.eq_zero_or_pos (y 4) with h4 | h4
    · rcases Nat.eq_zero_or_pos (y 5) with h5 | h5
      · rcases Nat.eq_zero_or_pos (y 6) with h6 | h6
        · rcases Nat.eq_zero_or_pos (y 7) with h7 | h7
          · rw [h4, h5, h6, h7] at ho
            exact absurd ho (by decide)
          · omega
        · omega
      · omega
    · omega
  have hpos : 0 < vR (fun t => y (4 + t)) 4 * M := Nat.mul_pos hp hM0
  refine ⟨?_, by omega⟩
  rw [e, Nat.add_mul_mod_self_right]
theorem endZ {lw y y3 z : Nat → Nat} {c i n : Nat} (hlw : ∀ t, lw t < 18446744073709551616) (hy : ∀ t, y t < 18446744073709551616) (h3 : vR y3 8 = vR y 4 + vR (fun t => y (4 + t)) i * vR lw 3) (hz : ∀ t, z t < 18446744073709551616) (h : vR z 8 + c * 18446744073709551616 ^ n = vR y3 8 + y (4 + i) * vR lw 3 * 18446744073709551616 ^ i) (hi : i < 4) (hc : c = 0 ∨ n = 8) :
    vR z 8 = vR y 4 + vR (fun t => y (4 + t)) (i + 1) * vR lw 3 := by
  have e : vR y3 8 + y (4 + i) * vR lw 3 * 18446744073709551616 ^ i = vR y 4 + vR (fun t => y (4 + t)) (i + 1) * vR lw 3 := by
    show _ = _ + (vR (fun t => y (4 + t)) i + y (4 + i) * _) * _
    rw [h3]
    grind
  rw [e] at h
  rcases hc with rfl | rfl
  · rw [Nat.zero_mul, Nat.add_zero] at h
    exact h
  · have h1 := vR_lt hy 4
    have h2 := vR_lt (R := fun t => y (4 + t)) (fun t => hy _) (i + 1)
    have h4 := vR_lt hlw 3
    have h5 : 18446744073709551616 ^ (i + 1) ≤ 18446744073709551616 ^ 4 := Nat.pow_le_pow_right (by decide) (by omega)
    have h6 : vR (fun t => y (4 + t)) (i + 1) * vR lw 3 ≤ 18446744073709551616 ^ 4 * 18446744073709551616 ^ 3 := Nat.mul_le_mul (by omega) (by omega)
    have h7 : (18446744073709551616 ^ 4 + 18446744073709551616 ^ 4 * 18446744073709551616 ^ 3 : Nat) < 18446744073709551616 ^ 8 := by decide
    rcases Nat.eq_zero_or_pos c with rfl | hp
    · rw [Nat.zero_mul, Nat.add_zero] at h
      exact h
    · have h8 : 1 * 18446744073709551616 ^ 8 ≤ c * 18446744073709551616 ^ 8 := Nat.mul_le_mul_right _ hp
      omega
set_option maxHeartbeats 4000000 in
set_option maxRecDepth 100000 in
theorem foldZ (w : World) (M : Nat) (lw : Nat → Nat) (hlw : ∀ t, lw t < 18446744073709551616) (hM0 : 0 < M) (hM : M + vR lw 3 = 18446744073709551616 ^ 4) (hnorm : ∀ w x, x < 115792089237316195423570985008687907853269984665640564039457584007913129639936 → Calls Try.prog 18 #[.agg (modc M lw), fv x] w (Gets w (fv (x % M)))) (R : Nat → Nat) (hR : ∀ t, R t < 18446744073709551616) : Calls Try.prog 66 #[.agg (modc M lw), .agg (rw8 R)] w (Gets w (fv (vR R 8 % M))) := by
  obtain ⟨V, hV⟩ : ∃ V, V = vR R 8 % M := ⟨_, rfl⟩
  obtain ⟨V0, hV0⟩ : ∃ V, V = vR R 8 := ⟨_, rfl⟩
  rw [← hV]
  refine Sy.enter (args := [.agg (modc M lw), .agg (rw8 R)]) Try.func66 rfl kL ?_
  refine sC ?_
  refine sM 49 (modc M lw) (fun g0 => ?_)
  refine Sy.make kR 93 (rw8 R) ptr kF (fun g1 => ?_)
  refine sM 45 (fcs 0) (fun g2 => ?_)
  refine sG ?_
  refine Sy.seq ?_
  refine Sy.block ?_
  refine Sy.loopX (T := Nat → Nat) V0 (fun k1 y1 => [(2, .pointer (some ⟨g0, 0, none⟩)), (3, .pointer (some ⟨g1, 0, none⟩)), (4, .pointer (some ⟨g2, 0, none⟩))]) (fun k1 y1 => [(g0, 49, (modc M lw)), (g1, 93, (rw8 y1)), (g2, 45, (fcs 0))]) (fun k1 y1 => (∀ t, y1 t < 18446744073709551616) ∧ vR y1 8 % M = V ∧ vR y1 8 + k1 ≤ V0) R [true, true, true] (⟨hR, hV.symm, by show vR R 8 + 0 ≤ V0; omega⟩) (all_cons kR (all_cons kR (all_cons kR all_nil))) kR (fun k1 y1 hk1 hh1 => ?_)
  refine Sy.seq ?_
  refine sC ?_
  refine sP (.pointer (some ⟨g1, 4, none⟩)) <| sS (.int .u64 ((y1 4 : Nat) : Int)) (Quiet.cell 1 g1 4 93 25 (rw8 y1) _ _ rfl kR kR Try.underlying25 rfl _ kR) <| sP (.pointer (some ⟨g1, 5, none⟩)) <| sS (.int .u64 ((y1 5 : Nat) : Int)) (Quiet.cell 1 g1 5 93 25 (rw8 y1) _ _ rfl kR kR Try.underlying25 rfl _ kR) <| sS (.int .u64 (((y1 4) ||| (y1 5) : Nat) : Int)) (Quiet.pure (exec_int .or _ _ _ .u64 _ _ _ rfl rfl rfl (int_or _ _ _ _ _ (or_nat _ _ (hh1.1 _) (hh1.1 _))))) <| sP (.pointer (some ⟨g1, 6, none⟩)) <| sS (.int .u64 ((y1 6 : Nat) : Int)) (Quiet.cell 1 g1 6 93 25 (rw8 y1) _ _ rfl kR kR Try.underlying25 rfl _ kR) <| sS (.int .u64 ((((y1 4) ||| (y1 5)) ||| (y1 6) : Nat) : Int)) (Quiet.pure (exec_int .or _ _ _ .u64 _ _ _ rfl rfl rfl (int_or _ _ _ _ _ (or_nat _ _ (Nat.or_lt_two_pow (n := 64) (hh1.1 _) (hh1.1 _)) (hh1.1 _))))) ?_
  refine sP (.pointer (some ⟨g1, 7, none⟩)) <| sS (.int .u64 ((y1 7 : Nat) : Int)) (Quiet.cell 1 g1 7 93 25 (rw8 y1) _ _ rfl kR kR Try.underlying25 rfl _ kR) <| sS (.int .u64 (((((y1 4) ||| (y1 5)) ||| (y1 6)) ||| (y1 7) : Nat) : Int)) (Quiet.pure (exec_int .or _ _ _ .u64 _ _ _ rfl rfl rfl (int_or _ _ _ _ _ (or_nat _ _ (Nat.or_lt_two_pow (n := 64) (Nat.or_lt_two_pow (n := 64) (hh1.1 _) (hh1.1 _)) (hh1.1 _)) (hh1.1 _))))) ?_
  obtain ⟨b1, hb1⟩ : ∃ z : Bool, z = decide ((((y1 4) ||| (y1 5)) ||| (y1 6)) ||| (y1 7) > 0) := ⟨_, rfl⟩
  refine sS (.bool b1) (Quiet.pure (exec_int .gtr _ _ _ .u64 _ _ _ rfl rfl rfl (int_gtr _ _ _ _ _ (by rw [hb1]; exact decide_eq_decide.2 (by omega))))) ?_
  refine sG ?_
  cases b1
  · have lb1 : ¬ ((((y1 4) ||| (y1 5)) ||| (y1 6)) ||| (y1 7) > 0) := of_decide_eq_false hb1.symm
    refine sU ?_
    refine Sy.exit ?_
    refine Sy.then_exit ?_
    refine Sy.then_exit ?_
    have hz := or_zero lb1
    have hlow := vR_low hz
    refine Sy.in_exit ?_
    refine sB ?_
    refine sS (.agg (modc M lw)) (qL 0 g0 0 7 49 49 (modc M lw) rfl Try.underlying49) <| sP (.pointer (some ⟨g1, 0, none⟩)) <| sS (.int .u64 ((y1 0 : Nat) : Int)) (Quiet.cell 1 g1 0 93 25 (rw8 y1) _ _ rfl kR kR Try.underlying25 rfl _ kR) <| sP (.pointer (some ⟨g1, 1, none⟩)) <| sS (.int .u64 ((y1 1 : Nat) : Int)) (Quiet.cell 1 g1 1 93 25 (rw8 y1) _ _ rfl kR kR Try.underlying25 rfl _ kR) <| sP (.pointer (some ⟨g1, 2, none⟩)) <| sS (.int .u64 ((y1 2 : Nat) : Int)) (Quiet.cell 1 g1 2 93 25 (rw8 y1) _ _ rfl kR kR Try.underlying25 rfl _ kR) <| sP (.pointer (some ⟨g1, 3, none⟩)) ?_
    refine sS (.int .u64 ((y1 3 : Nat) : Int)) (Quiet.cell 1 g1 3 93 25 (rw8 y1) _ _ rfl kR kR Try.underlying25 rfl _ kR) <| sS (fv (vR y1 4)) (Quiet.pure (fun w => by rw [← row_fv hh1.1]; kernel_rfl)) <| sS (fv ((vR y1 4) % M)) (qF 18 #[.agg (modc M lw), fv (vR y1 4)] (fun w => hnorm w _ (vR_lt hh1.1 4))) <| sW 2 g2 45 (fcs 0) (fcs ((vR y1 4) % M)) (wS 0 45 (fcs ((vR y1 4) % M)) rfl) ?_
    refine sG ?_
    refine Sy.ret ?_
    rw [show (fv V : Value) = fv ((vR y1 4) % M) from by rw [← hh1.2.1, hlow]]
    exact rC (v := fv ((vR y1 4) % M)) 45 g2 2 (fcs ((vR y1 4) % M)) rfl Try.underlying45
  · have lb1 : (((y1 4) ||| (y1 5)) ||| (y1 6)) ||| (y1 7) > 0 := of_decide_eq_true hb1.symm
    refine sT ?_
    refine Sy.skip ?_
    refine Sy.then_ ?_
    refine Sy.block ?_
    refine sC ?_
    refine Sy.make kR 93 (rw8 (fun _ => 0)) ptr kF (fun g3 => ?_)
    refine sG ?_
    refine Sy.seq ?_
    refine sC ?_
    refine sP (.int .i64 0) ?_
    refine sG ?_
    refine Sy.block ?_
    refine Sy.loopK 4 (fun k2 => [(2, .pointer (some ⟨g0, 0, none⟩)), (3, .pointer (some ⟨g1, 0, none⟩)), (4, .pointer (some ⟨g2, 0, none⟩)), (5, .pointer (some ⟨g3, 0, none⟩)), (6, .int .i64 ((k2 : Nat) : Int))]) (fun k2 => [(g0, 49, (modc M lw)), (g1, 93, (rw8 y1)), (g2, 45, (fcs 0)), (g3, 93, (rw8 (cpy y1 k2)))]) [true, true, true, true] (M := [(g0, 49, (modc M lw)), (g1, 93, (rw8 y1)), (g2, 45, (fcs 0)), (g3, 93, (rw8 (fun _ => 0)))]) (all_cons kR (all_cons kR (all_cons kR (all_cons kR (all_cons kR all_nil))))) kR (bcons rfl (bcons rfl (bcons rfl (bcons (beq kR) rfl)))) (fun k2 hk2 => ?_)
    refine Sy.seq ?_
    refine sC ?_
    refine sP (.int .i64 ((k2 : Nat) : Int)) ?_
    obtain ⟨b2, hb2⟩ : ∃ z : Bool, z = decide (k2 < 4) := ⟨_, rfl⟩
    refine sS (.bool b2) (Quiet.pure (exec_int .lss _ _ _ .i64 _ _ _ rfl rfl rfl (int_lss _ _ _ _ _ (by rw [hb2]; exact decide_eq_decide.2 (by omega))))) ?_
    refine sG ?_
    cases b2
    · have lb2 : ¬ (k2 < 4) := of_decide_eq_false hb2.symm
      refine sU ?_
      refine Sy.exit ?_
      refine Sy.then_exit ?_
      refine Sy.then_exit ?_
      obtain rfl : k2 = 4 := by omega
      refine Sy.in_exit ?_
      refine Sy.then_ ?_
      refine Sy.seq ?_
      refine sC ?_
      refine sP (.int .i64 0) ?_
      refine sG ?_
      refine Sy.block ?_
      refine Sy.loopX (T := Nat → Nat) 4 (fun k3 y3 => [(2, .pointer (some ⟨g0, 0, none⟩)), (3, .pointer (some ⟨g1, 0, none⟩)), (4, .pointer (some ⟨g2, 0, none⟩)), (5, .pointer (some ⟨g3, 0, none⟩)), (7, .int .i64 ((k3 : Nat) : Int))]) (fun k3 y3 => [(g0, 49, (modc M lw)), (g1, 93, (rw8 y1)), (g2, 45, (fcs 0)), (g3, 93, (rw8 y3))]) (fun k3 y3 => (∀ t, y3 t < 18446744073709551616) ∧ vR y3 8 = vR y1 4 + vR (fun t => y1 (4 + t)) k3 * vR lw 3) (cpy y1 4) [true, true, true, true] (⟨cpy_lt hh1.1 4, (vR_cpy y1).trans (by show _ = _ + 0 * _; rw [Nat.zero_mul, Nat.add_zero])⟩) (all_cons kR (all_cons kR (all_cons kR (all_cons kR (all_cons kR all_nil))))) kR (fun k3 y3 hk3 hh3 => ?_)
      refine Sy.seq ?_
      refine sC ?_
      refine sP (.int .i64 ((k3 : Nat) : Int)) ?_
      obtain ⟨b3, hb3⟩ : ∃ z : Bool, z = decide (k3 < 4) := ⟨_, rfl⟩
      refine sS (.bool b3) (Quiet.pure (exec_int .lss _ _ _ .i64 _ _ _ rfl rfl rfl (int_lss _ _ _ _ _ (by rw [hb3]; exact decide_eq_decide.2 (by omega))))) ?_
      refine sG ?_
      cases b3
      · have lb3 : ¬ (k3 < 4) := of_decide_eq_false hb3.symm
        refine sU ?_
        refine Sy.exit ?_
        refine Sy.then_exit ?_
        refine Sy.then_exit ?_
        obtain rfl : k3 = 4 := by omega
        refine Sy.in_exit ?_
        refine Sy.then_ ?_
        refine Sy.region ?_
        refine sS (.agg (rw8 y3)) (Quiet.load 3 g3 0 8 93 93 (rw8 y3) _ _ rfl kR kR Try.underlying93 rfl kR _ kR kL) ?_
        refine Sy.write kR 1 g1 93 (rw8 y1) (rw8 y3) kR (Writes.store 0 93 (rw8 y3) _ _ rfl kR kR kR kL kR kR) ?_
        refine Sy.nil ?_
        refine Sy.in_ ?_
        have hf := outerZ hlw hM0 hM hh1.1 hh3.2 lb1
        obtain ⟨hf1, hf2⟩ := hf
        exact Sy.againX (y3) [true, true, true, false] (by have := hh1.2.2; omega) (⟨hh3.1, hf1.trans hh1.2.1, by have := hh1.2.2; omega⟩) (all_cons kR (all_cons kR (all_cons kR all_nil))) kR
      · have lb3 : k3 < 4 := of_decide_eq_true hb3.symm
        refine sT ?_
        refine Sy.skip ?_
        refine Sy.then_ ?_
        refine Sy.seq ?_
        refine Sy.block ?_
        refine sC ?_
        refine sP (.int .u64 0) ?_
        refine sG ?_
        refine Sy.seq ?_
        refine sC ?_
        refine sP (.int .i64 0) ?_
        refine sG ?_
        refine Sy.block ?_
        refine Sy.loopX (T := (Nat → Nat) × Nat) 3 (fun k4 y4 => [(2, .pointer (some ⟨g0, 0, none⟩)), (3, .pointer (some ⟨g1, 0, none⟩)), (4, .pointer (some ⟨g2, 0, none⟩)), (5, .pointer (some ⟨g3, 0, none⟩)), (7, .int .i64 ((k3 : Nat) : Int)), (8, .int .u64 ((y4.2 : Nat) : Int)), (9, .int .i64 ((k4 : Nat) : Int))]) (fun k4 y4 => [(g0, 49, (modc M lw)), (g1, 93, (rw8 y1)), (g2, 45, (fcs 0)), (g3, 93, (rw8 y4.1))]) (fun k4 y4 => (∀ t, y4.1 t < 18446744073709551616) ∧ y4.2 < 18446744073709551616 ∧ vR y4.1 8 + y4.2 * 18446744073709551616 ^ (k3 + k4) = vR y3 8 + y1 (4 + k3) * vR lw k4 * 18446744073709551616 ^ k3) (y3, 0) [true, true, true, true] (⟨hh3.1, by show (0 : Nat) < 18446744073709551616; decide, by show vR y3 8 + 0 * _ = _ + _ * 0 * _; omega⟩) (all_cons kR (all_cons kR (all_cons kR (all_cons kR (all_cons kR (all_cons kR (all_cons kR all_nil))))))) kR (fun k4 y4 hk4 hh4 => ?_)
        refine Sy.seq ?_
        refine sC ?_
        refine sP (.int .i64 ((k4 : Nat) : Int)) ?_
        obtain ⟨b4, hb4⟩ : ∃ z : Bool, z = decide (k4 < 3) := ⟨_, rfl⟩
        refine sS (.bool b4) (Quiet.pure (exec_int .lss _ _ _ .i64 _ _ _ rfl rfl rfl (int_lss _ _ _ _ _ (by rw [hb4]; exact decide_eq_decide.2 (by omega))))) ?_
        refine sG ?_
        cases b4
        · have lb4 : ¬ (k4 < 3) := of_decide_eq_false hb4.symm
          refine sU ?_
          refine Sy.exit ?_
          refine Sy.then_exit ?_
          refine Sy.then_exit ?_
          obtain rfl : k4 = 3 := by omega
          refine Sy.in_exit ?_
          refine sB ?_
          refine sP (.int .i64 ((k3 : Nat) : Int)) <| sS (.int .i64 ((k3 + 3 : Nat) : Int)) (Quiet.pure (exec_int .add _ _ _ .i64 _ _ _ rfl rfl rfl (int_add _ _ _ _ _ ((wrap_i64 (by omega) (by omega)).trans (by omega))))) <| sP (.int .i64 ((k3 + 3 : Nat) : Int)) ?_
          refine sG ?_
          refine Sy.block ?_
          refine Sy.loopX (T := (Nat → Nat) × Nat) (5 - k3) (fun k5 y5 => [(2, .pointer (some ⟨g0, 0, none⟩)), (3, .pointer (some ⟨g1, 0, none⟩)), (4, .pointer (some ⟨g2, 0, none⟩)), (5, .pointer (some ⟨g3, 0, none⟩)), (7, .int .i64 ((k3 : Nat) : Int)), (8, .int .u64 ((y5.2 : Nat) : Int)), (16, .int .i64 ((k3 + 3 + k5 : Nat) : Int))]) (fun k5 y5 => [(g0, 49, (modc M lw)), (g1, 93, (rw8 y1)), (g2, 45, (fcs 0)), (g3, 93, (rw8 y5.1))]) (fun k5 y5 => (∀ t, y5.1 t < 18446744073709551616) ∧ y5.2 < 18446744073709551616 ∧ vR y5.1 8 + y5.2 * 18446744073709551616 ^ (k3 + 3 + k5) = vR y3 8 + y1 (4 + k3) * vR lw 3 * 18446744073709551616 ^ k3) y4 [true, true, true, true] (⟨hh4.1, hh4.2.1, hh4.2.2⟩) (all_cons kR (all_cons kR (all_cons kR (all_cons kR (all_cons kR (all_cons kR (all_cons kR all_nil))))))) kR (fun k5 y5 hk5 hh5 => ?_)
          refine Sy.seq ?_
          refine sC ?_
          refine sP (.int .i64 ((k3 + 3 + k5 : Nat) : Int)) ?_
          obtain ⟨b5, hb5⟩ : ∃ z : Bool, z = decide (k3 + 3 + k5 < 8) := ⟨_, rfl⟩
          refine sS (.bool b5) (Quiet.pure (exec_int .lss _ _ _ .i64 _ _ _ rfl rfl rfl (int_lss _ _ _ _ _ (by rw [hb5]; exact decide_eq_decide.2 (by omega))))) <| sP (.bool b5) ?_
          cases b5
          · have lb5 : ¬ (k3 + 3 + k5 < 8) := of_decide_eq_false hb5.symm
            refine sN ?_
            refine sN ?_
            refine sP (.bool false) ?_
            refine sG ?_
            refine sU ?_
            refine Sy.exit ?_
            refine Sy.then_exit ?_
            refine Sy.then_exit ?_
            have hfin := endZ hlw hh1.1 hh3.2 hh5.1 hh5.2.2 (by omega) (by first | (left; omega) | (right; omega))
            refine Sy.in_exit ?_
            refine Sy.in_ ?_
            refine Sy.then_ ?_
            refine Sy.region ?_
            refine sP (.int .i64 ((k3 : Nat) : Int)) <| sS (.int .i64 ((k3 + 1 : Nat) : Int)) (Quiet.pure (exec_int .add _ _ _ .i64 _ _ _ rfl rfl rfl (int_add _ _ _ _ _ ((wrap_i64 (by omega) (by omega)).trans (by omega))))) <| sP (.int .i64 ((k3 + 1 : Nat) : Int)) ?_
            refine Sy.nil ?_
            have hq := hfin
            exact Sy.againX (y5.1) [true, true, true, true] (by omega) (⟨hh5.1, hq⟩) (all_cons kR (all_cons kR (all_cons kR (all_cons kR (all_cons kR all_nil))))) kR
          · have lb5 : k3 + 3 + k5 < 8 := of_decide_eq_true hb5.symm
            refine sP (.int .u64 ((y5.2 : Nat) : Int)) ?_
            obtain ⟨b6, hb6⟩ : ∃ z : Bool, z = decide (y5.2 > 0) := ⟨_, rfl⟩
            refine sS (.bool b6) (Quiet.pure (exec_int .gtr _ _ _ .u64 _ _ _ rfl rfl rfl (int_gtr _ _ _ _ _ (by rw [hb6]; exact decide_eq_decide.2 (by omega))))) <| sP (.bool b6) ?_
            refine sG ?_
            cases b6
            · have lb6 : ¬ (y5.2 > 0) := of_decide_eq_false hb6.symm
              refine sU ?_
              refine Sy.exit ?_
              refine Sy.then_exit ?_
              refine Sy.then_exit ?_
              have hfin := endZ hlw hh1.1 hh3.2 hh5.1 hh5.2.2 (by omega) (by first | (left; omega) | (right; omega))
              refine Sy.in_exit ?_
              refine Sy.in_ ?_
              refine Sy.then_ ?_
              refine Sy.region ?_
              refine sP (.int .i64 ((k3 : Nat) : Int)) <| sS (.int .i64 ((k3 + 1 : Nat) : Int)) (Quiet.pure (exec_int .add _ _ _ .i64 _ _ _ rfl rfl rfl (int_add _ _ _ _ _ ((wrap_i64 (by omega) (by omega)).trans (by omega))))) <| sP (.int .i64 ((k3 + 1 : Nat) : Int)) ?_
              refine Sy.nil ?_
              have hq := hfin
              exact Sy.againX (y5.1) [true, true, true, true] (by omega) (⟨hh5.1, hq⟩) (all_cons kR (all_cons kR (all_cons kR (all_cons kR (all_cons kR all_nil))))) kR
            · have lb6 : y5.2 > 0 := of_decide_eq_true hb6.symm
              refine sT ?_
              refine Sy.skip ?_
              refine Sy.then_ ?_
              refine Sy.seq ?_
              refine Sy.block ?_
              refine sC ?_
              refine sP (.int .i64 ((k3 + 3 + k5 : Nat) : Int)) <| sS (.pointer (some ⟨g3, 0 + (k3 + 3 + k5) * 1, none⟩)) (Quiet.pure (exec_atA 93 _ _ _ g3 0 _ (k3 + 3 + k5) 1 .i64 rfl rfl rfl Try.underlying93 kF (by omega))) <| sS (.int .u64 ((y5.1 (k3 + 3 + k5) : Nat) : Int)) (Quiet.cell 3 g3 (0 + (k3 + 3 + k5) * 1) 93 25 (rw8 y5.1) _ _ rfl kR kR Try.underlying25 rfl _ (rw8_at y5.1 (k := k3 + 3 + k5) (by omega) (by omega))) <| sP (.int .u64 ((y5.2 : Nat) : Int)) ?_
              obtain ⟨x1, c1, lx1, lc1, ex1, rx1⟩ := add0_ex (y5.1 (k3 + 3 + k5)) (y5.2) (by first | assumption | exact hR _ | exact hlw _ | exact wd_lt _ _ | exact hh1.1 _ | exact hh3.1 _ | exact hh4.1 _ | exact hh5.1 _ | exact hh5.2.1 | exact hh4.2.1 | decide) (by first | assumption | exact hR _ | exact hlw _ | exact wd_lt _ _ | exact hh1.1 _ | exact hh3.1 _ | exact hh4.1 _ | exact hh5.1 _ | exact hh5.2.1 | exact hh4.2.1 | decide)
              refine sS (.tuple #[.int .u64 ((x1 : Nat) : Int), .int .u64 ((c1 : Nat) : Int)]) (Quiet.pure (fun w => Eq.trans kR (rx1 w))) <| sP (.tuple #[.int .u64 ((x1 : Nat) : Int), .int .u64 ((c1 : Nat) : Int)]) <| sP (.int .u64 ((x1 : Nat) : Int)) <| sP (.int .u64 ((c1 : Nat) : Int)) <| sP (.int .u64 ((x1 : Nat) : Int)) <| sP (.int .u64 ((c1 : Nat) : Int)) ?_
              refine sA ?_
              refine sP (.int .i64 ((k3 + 3 + k5 : Nat) : Int)) <| sP (.int .u64 ((x1 : Nat) : Int)) <| sS (.pointer (some ⟨g3, 0 + (k3 + 3 + k5) * 1, none⟩)) (Quiet.pure (exec_atA 93 _ _ _ g3 0 _ (k3 + 3 + k5) 1 .i64 rfl rfl rfl Try.underlying93 kF (by omega))) ?_
              refine Sy.write kR 3 g3 93 (rw8 y5.1) (rw8 (upd y5.1 (k3 + 3 + k5) x1)) kR (Writes.one (0 + (k3 + 3 + k5) * 1) 25 (.int .u64 ((x1 : Nat) : Int)) _ _ rfl kR kR kR rfl rfl (rw8_fit _ (k := k3 + 3 + k5) (by omega) (by omega)) (rw8_set _ _ (by omega) (by omega))) ?_
              refine sG ?_
              refine Sy.region ?_
              refine sP (.int .u64 ((c1 : Nat) : Int)) <| sP (.int .u64 ((c1 : Nat) : Int)) ?_
              refine Sy.nil ?_
              refine Sy.in_ ?_
              refine Sy.then_ ?_
              refine Sy.region ?_
              refine sP (.int .i64 ((k3 + 3 + k5 : Nat) : Int)) <| sS (.int .i64 (((k3 + 3 + k5) + 1 : Nat) : Int)) (Quiet.pure (exec_int .add _ _ _ .i64 _ _ _ rfl rfl rfl (int_add _ _ _ _ _ ((wrap_i64 (by omega) (by omega)).trans (by omega))))) <| sP (.int .i64 (((k3 + 3 + k5) + 1 : Nat) : Int)) ?_
              refine Sy.nil ?_
              have hin := carry2 (vR_upd y5.1 (k3 + 3 + k5) x1 8 (by omega)) hh5.2.2 ex1
              exact Sy.againX ((upd y5.1 (k3 + 3 + k5) x1, c1)) [true, true, true, true] (by omega) (⟨upd_lt hh5.1 lx1, by omega, by rw [← Nat.add_assoc, Nat.pow_succ]; exact hin⟩) (all_cons kR (all_cons kR (all_cons kR (all_cons kR (all_cons kR (all_cons kR (all_cons kR all_nil))))))) kR
        · have lb4 : k4 < 3 := of_decide_eq_true hb4.symm
          refine sT ?_
          refine Sy.skip ?_
          refine Sy.then_ ?_
          refine Sy.seq ?_
          refine Sy.block ?_
          refine Sy.seq ?_
          refine Sy.regionD (fun j => false) kR ?_
          refine sZ 0 rfl (.int .i64 ((k3 : Nat) : Int)) <| sD 1 rfl (.int .i64 ((4 + k3 : Nat) : Int)) (Quiet.pure (exec_int .add _ _ _ .i64 _ _ _ rfl rfl rfl (int_add _ _ _ _ _ ((wrap_i64 (by omega) (by omega)).trans (by omega))))) <| sD 2 rfl (.pointer (some ⟨g1, 0 + (4 + k3) * 1, none⟩)) (Quiet.pure (exec_atA 93 _ _ _ g1 0 _ (4 + k3) 1 .i64 rfl rfl rfl Try.underlying93 kF (by omega))) <| sD 3 rfl (.int .u64 ((y1 (4 + k3) : Nat) : Int)) (Quiet.cell 1 g1 (0 + (4 + k3) * 1) 93 25 (rw8 y1) _ _ rfl kR kR Try.underlying25 rfl _ (rw8_at y1 (k := 4 + k3) (by omega) (by omega))) <| sZ 4 rfl (.int .i64 ((k4 : Nat) : Int)) <| sZ 5 rfl (.pointer (some ⟨g0, 4, none⟩)) <| sD 6 rfl (.pointer (some ⟨g0, 4 + k4 * 1, none⟩)) (Quiet.pure (exec_atA 47 _ _ _ g0 4 _ k4 1 .i64 rfl rfl rfl Try.underlying47 kF (by omega))) <| sD 7 rfl (.int .u64 ((lw k4 : Nat) : Int)) (Quiet.cell 0 g0 (4 + k4 * 1) 49 25 (modc M lw) _ _ rfl kR kR Try.underlying25 rfl _ (modc_at M lw (j := k4) (by omega) (by omega))) ?_
          obtain ⟨hi1, lo1, llo1, elo1⟩ := two_words (y1 (4 + k3)) (lw k4)
          refine sD 8 rfl (.tuple #[.int .u64 ((hi1 : Nat) : Int), .int .u64 ((lo1 : Nat) : Int)]) (qF 64 #[.int .u64 ((y1 (4 + k3) : Nat) : Int), .int .u64 ((lw k4 : Nat) : Int)] (fun w => mulZ_any w (y1 (4 + k3)) (lw k4) hi1 lo1 (by first | assumption | exact hR _ | exact hlw _ | exact wd_lt _ _ | exact hh1.1 _ | exact hh3.1 _ | exact hh4.1 _ | exact hh5.1 _ | exact hh5.2.1 | exact hh4.2.1 | decide) (by first | assumption | exact hR _ | exact hlw _ | exact wd_lt _ _ | exact hh1.1 _ | exact hh3.1 _ | exact hh4.1 _ | exact hh5.1 _ | exact hh5.2.1 | exact hh4.2.1 | decide) llo1 elo1)) <| sZ 9 rfl (.tuple #[.int .u64 ((hi1 : Nat) : Int), .int .u64 ((lo1 : Nat) : Int)]) <| sZ 10 rfl (.int .u64 ((hi1 : Nat) : Int)) <| sZ 11 rfl (.int .u64 ((lo1 : Nat) : Int)) <| sZ 12 rfl (.int .u64 ((hi1 : Nat) : Int)) <| sZ 13 rfl (.int .u64 ((lo1 : Nat) : Int)) ?_
          refine sE ?_
          refine sB ?_
          refine sP (.int .u64 ((lo1 : Nat) : Int)) <| sP (.int .i64 ((k3 : Nat) : Int)) <| sP (.int .i64 ((k4 : Nat) : Int)) <| sS (.int .i64 ((k3 + k4 : Nat) : Int)) (Quiet.pure (exec_int .add _ _ _ .i64 _ _ _ rfl rfl rfl (int_add _ _ _ _ _ ((wrap_i64 (by omega) (by omega)).trans (by omega))))) <| sS (.pointer (some ⟨g3, 0 + (k3 + k4) * 1, none⟩)) (Quiet.pure (exec_atA 93 _ _ _ g3 0 _ (k3 + k4) 1 .i64 rfl rfl rfl Try.underlying93 kF (by omega))) <| sS (.int .u64 ((y4.1 (k3 + k4) : Nat) : Int)) (Quiet.cell 3 g3 (0 + (k3 + k4) * 1) 93 25 (rw8 y4.1) _ _ rfl kR kR Try.underlying25 rfl _ (rw8_at y4.1 (k := k3 + k4) (by omega) (by omega))) ?_
          obtain ⟨x2, c2, lx2, lc2, ex2, rx2⟩ := add0_ex (lo1) (y4.1 (k3 + k4)) (by first | assumption | exact hR _ | exact hlw _ | exact wd_lt _ _ | exact hh1.1 _ | exact hh3.1 _ | exact hh4.1 _ | exact hh5.1 _ | exact hh5.2.1 | exact hh4.2.1 | decide) (by first | assumption | exact hR _ | exact hlw _ | exact wd_lt _ _ | exact hh1.1 _ | exact hh3.1 _ | exact hh4.1 _ | exact hh5.1 _ | exact hh5.2.1 | exact hh4.2.1 | decide)
          refine sS (.tuple #[.int .u64 ((x2 : Nat) : Int), .int .u64 ((c2 : Nat) : Int)]) (Quiet.pure (fun w => Eq.trans kR (rx2 w))) <| sP (.tuple #[.int .u64 ((x2 : Nat) : Int), .int .u64 ((c2 : Nat) : Int)]) <| sP (.int .u64 ((x2 : Nat) : Int)) <| sP (.int .u64 ((c2 : Nat) : Int)) <| sP (.int .u64 ((x2 : Nat) : Int)) <| sP (.int .u64 ((c2 : Nat) : Int)) ?_
          refine sA ?_
          refine sP (.int .u64 ((x2 : Nat) : Int)) <| sP (.int .u64 ((y4.2 : Nat) : Int)) ?_
          obtain ⟨x3, c3, lx3, lc3, ex3, rx3⟩ := add0_ex (x2) (y4.2) (by first | assumption | exact hR _ | exact hlw _ | exact wd_lt _ _ | exact hh1.1 _ | exact hh3.1 _ | exact hh4.1 _ | exact hh5.1 _ | exact hh5.2.1 | exact hh4.2.1 | decide) (by first | assumption | exact hR _ | exact hlw _ | exact wd_lt _ _ | exact hh1.1 _ | exact hh3.1 _ | exact hh4.1 _ | exact hh5.1 _ | exact hh5.2.1 | exact hh4.2.1 | decide)
          refine sS (.tuple #[.int .u64 ((x3 : Nat) : Int), .int .u64 ((c3 : Nat) : Int)]) (Quiet.pure (fun w => Eq.trans kR (rx3 w))) <| sP (.tuple #[.int .u64 ((x3 : Nat) : Int), .int .u64 ((c3 : Nat) : Int)]) <| sP (.int .u64 ((x3 : Nat) : Int)) <| sP (.int .u64 ((c3 : Nat) : Int)) <| sP (.int .u64 ((x3 : Nat) : Int)) <| sP (.int .u64 ((c3 : Nat) : Int)) ?_
          refine sA ?_
          refine sP (.int .i64 ((k3 : Nat) : Int)) <| sP (.int .i64 ((k4 : Nat) : Int)) <| sS (.int .i64 ((k3 + k4 : Nat) : Int)) (Quiet.pure (exec_int .add _ _ _ .i64 _ _ _ rfl rfl rfl (int_add _ _ _ _ _ ((wrap_i64 (by omega) (by omega)).trans (by omega))))) <| sP (.int .u64 ((x3 : Nat) : Int)) <| sS (.pointer (some ⟨g3, 0 + (k3 + k4) * 1, none⟩)) (Quiet.pure (exec_atA 93 _ _ _ g3 0 _ (k3 + k4) 1 .i64 rfl rfl rfl Try.underlying93 kF (by omega))) ?_
          refine Sy.write kR 3 g3 93 (rw8 y4.1) (rw8 (upd y4.1 (k3 + k4) x3)) kR (Writes.one (0 + (k3 + k4) * 1) 25 (.int .u64 ((x3 : Nat) : Int)) _ _ rfl kR kR kR rfl rfl (rw8_fit _ (k := k3 + k4) (by omega) (by omega)) (rw8_set _ _ (by omega) (by omega))) ?_
          refine sG ?_
          refine Sy.region ?_
          refine sP (.int .u64 ((hi1 : Nat) : Int)) <| sP (.int .u64 ((c2 : Nat) : Int)) ?_
          have hst := stepZ elo1 ex2 ex3
          have hcar := carryZ hst (by first | assumption | exact hR _ | exact hlw _ | exact wd_lt _ _ | exact hh1.1 _ | exact hh3.1 _ | exact hh4.1 _ | exact hh5.1 _ | exact hh5.2.1 | exact hh4.2.1 | decide) (by first | assumption | exact hR _ | exact hlw _ | exact wd_lt _ _ | exact hh1.1 _ | exact hh3.1 _ | exact hh4.1 _ | exact hh5.1 _ | exact hh5.2.1 | exact hh4.2.1 | decide) (by first | assumption | exact hR _ | exact hlw _ | exact wd_lt _ _ | exact hh1.1 _ | exact hh3.1 _ | exact hh4.1 _ | exact hh5.1 _ | exact hh5.2.1 | exact hh4.2.1 | decide) hh4.2.1
          refine sS (.int .u64 ((hi1 + c2 : Nat) : Int)) (Quiet.pure (exec_int .add _ _ _ .u64 _ _ _ rfl rfl rfl (int_add _ _ _ _ _ ((wrap_u64 (by omega) (by omega)).trans (by omega))))) <| sP (.int .u64 ((c3 : Nat) : Int)) <| sS (.int .u64 (((hi1 + c2) + c3 : Nat) : Int)) (Quiet.pure (exec_int .add _ _ _ .u64 _ _ _ rfl rfl rfl (int_add _ _ _ _ _ ((wrap_u64 (by omega) (by omega)).trans (by omega))))) <| sP (.int .u64 (((hi1 + c2) + c3 : Nat) : Int)) ?_
          refine Sy.nil ?_
          refine Sy.in_ ?_
          refine Sy.then_ ?_
          refine Sy.region ?_
          refine sP (.int .i64 ((k4 : Nat) : Int)) <| sS (.int .i64 ((k4 + 1 : Nat) : Int)) (Quiet.pure (exec_int .add _ _ _ .i64 _ _ _ rfl rfl rfl (int_add _ _ _ _ _ ((wrap_i64 (by omega) (by omega)).trans (by omega))))) <| sP (.int .i64 ((k4 + 1 : Nat) : Int)) ?_
          refine Sy.nil ?_
          have hin := innerZ (vR_upd y4.1 (k3 + k4) x3 8 (by omega)) hh4.2.2 hst (P0 := 18446744073709551616 ^ k4) (by rw [Nat.add_comm, Nat.pow_add])
          exact Sy.againX ((upd y4.1 (k3 + k4) x3, hi1 + c2 + c3)) [true, true, true, true] (by omega) (⟨upd_lt hh4.1 lx3, hcar, by rw [← Nat.add_assoc, Nat.pow_succ]; exact hin⟩) (all_cons kR (all_cons kR (all_cons kR (all_cons kR (all_cons kR (all_cons kR (all_cons kR all_nil))))))) kR
    · have lb2 : k2 < 4 := of_decide_eq_true hb2.symm
      refine sT ?_
      refine Sy.skip ?_
      refine Sy.then_ ?_
      refine Sy.seq ?_
      refine Sy.block ?_
      refine Sy.region ?_
      refine sP (.int .i64 ((k2 : Nat) : Int)) <| sP (.int .i64 ((k2 : Nat) : Int)) <| sS (.pointer (some ⟨g1, 0 + k2 * 1, none⟩)) (Quiet.pure (exec_atA 93 _ _ _ g1 0 _ k2 1 .i64 rfl rfl rfl Try.underlying93 kF (by omega))) <| sS (.int .u64 ((y1 k2 : Nat) : Int)) (Quiet.cell 1 g1 (0 + k2 * 1) 93 25 (rw8 y1) _ _ rfl kR kR Try.underlying25 rfl _ (rw8_at y1 (k := k2) (by omega) (by omega))) <| sS (.pointer (some ⟨g3, 0 + k2 * 1, none⟩)) (Quiet.pure (exec_atA 93 _ _ _ g3 0 _ k2 1 .i64 rfl rfl rfl Try.underlying93 kF (by omega))) ?_
      refine Sy.write kR 3 g3 93 (rw8 (cpy y1 k2)) (rw8 (upd (cpy y1 k2) k2 (y1 k2))) kR (Writes.one (0 + k2 * 1) 25 (.int .u64 ((y1 k2 : Nat) : Int)) _ _ rfl kR kR kR rfl rfl (rw8_fit _ (k := k2) (by omega) (by omega)) (rw8_set _ _ (by omega) (by omega))) ?_
      refine Sy.nil ?_
      refine Sy.in_ ?_
      refine Sy.then_ ?_
      refine Sy.region ?_
      refine sP (.int .i64 ((k2 : Nat) : Int)) <| sS (.int .i64 ((k2 + 1 : Nat) : Int)) (Quiet.pure (exec_int .add _ _ _ .i64 _ _ _ rfl rfl rfl (int_add _ _ _ _ _ ((wrap_i64 (by omega) (by omega)).trans (by omega))))) <| sP (.int .i64 ((k2 + 1 : Nat) : Int)) ?_
      refine Sy.nil ?_
      exact Sy.againK [true, true, true, true] (M := [(g0, 49, (modc M lw)), (g1, 93, (rw8 y1)), (g2, 45, (fcs 0)), (g3, 93, (rw8 (upd (cpy y1 k2) k2 (y1 k2))))]) (by omega) (all_cons kR (all_cons kR (all_cons kR (all_cons kR (all_cons kR all_nil))))) kR (bcons rfl (bcons rfl (bcons rfl (bcons (beq (congrArg rw8 (cpy_succ _ _))) rfl))))
end Go.Proofs.Ytbofhoonlmikcaa.Fz

end
section
namespace Go.Proofs.Ytbofhoonlmikcaa
open Go.RowKit Go.Lib Go.Proofs.Ytbofhoonlmikcaa

def val8 (a b c d e f g h : Nat) : Nat := a + 18446744073709551616 * b + 340282366920938463463374607431768211456 * c + 6277101735386680763835789423207666416102355444464034512896 * d + 115792089237316195423570985008687907853269984665640564039457584007913129639936 * e + 2135987035920910082395021706169552114602704522356652769947041607822219725780640550022962086936576 * f + 39402006196394479212279040100143613805079739270465446667948293404245721771497210611414266254884915640806627990306816 * g + 726838724295606890549323807888004534353641360687318060281490199180639288113397923326191050713763565560762521606266177933534601628614656 * h
/-- eight words by their numbers -/
def r8 (a b c d e f g h : Nat) : Nat → Nat
  | 0 => a
  | 1 => b
  | 2 => c
  | 3 => d
  | 4 => e
  | 5 => f
  | 6 => g
  | 7 => h
  | _ => 0
theorem r8_val (a b c d e f g h : Nat) : Fz.vR (r8 a b c d e f g h) 8 = val8 a b c d e f g h := by
  show 0 + a * 1 + b * 18446744073709551616 + c * 340282366920938463463374607431768211456 + d * 6277101735386680763835789423207666416102355444464034512896 + e * 115792089237316195423570985008687907853269984665640564039457584007913129639936 + f * 2135987035920910082395021706169552114602704522356652769947041607822219725780640550022962086936576 + g * 39402006196394479212279040100143613805079739270465446667948293404245721771497210611414266254884915640806627990306816 + h * 726838724295606890549323807888004534353641360687318060281490199180639288113397923326191050713763565560762521606266177933534601628614656 = val8 a b c d e f g h
  unfold val8
  omega
def lackW : Nat → Nat
  | 0 => 4294968273
  | 1 => 0
  | 2 => 0
  | _ => 0
theorem lackW_lt : ∀ t, lackW t < 18446744073709551616
  | 0 => by decide
  | 1 => by decide
  | 2 => by decide
  | _ + 3 => by show 0 < _; decide
theorem mod_row : Fz.modc pM lackW = #[.int .u64 18446744069414583343, .int .u64 18446744073709551615, .int .u64 18446744073709551615, .int .u64 18446744073709551615, .int .u64 4294968273, .int .u64 0, .int .u64 0] := by kernel_rfl
theorem lack_sum : pM + Fz.vR lackW 3 = 18446744073709551616 ^ 4 := by decide +kernel
theorem pM_pos0 : 0 < pM := by decide +kernel
theorem fold_any (w : World) (d0 d1 d2 d3 d4 d5 d6 d7 : Nat) (hd : d0 < 18446744073709551616 ∧ d1 < 18446744073709551616 ∧ d2 < 18446744073709551616 ∧ d3 < 18446744073709551616 ∧ d4 < 18446744073709551616 ∧ d5 < 18446744073709551616 ∧ d6 < 18446744073709551616 ∧ d7 < 18446744073709551616) : Calls Try.prog 66 #[.agg #[.int .u64 18446744069414583343, .int .u64 18446744073709551615, .int .u64 18446744073709551615, .int .u64 18446744073709551615, .int .u64 4294968273, .int .u64 0, .int .u64 0], .agg #[.int .u64 (d0 : Int), .int .u64 (d1 : Int), .int .u64 (d2 : Int), .int .u64 (d3 : Int), .int .u64 (d4 : Int), .int .u64 (d5 : Int), .int .u64 (d6 : Int), .int .u64 (d7 : Int)]] w fun e w' => e = .returned (fv (val8 d0 d1 d2 d3 d4 d5 d6 d7 % pM)) ∧ Below w.heap.size w w' := by
  have h := Fz.foldZ w pM lackW lackW_lt pM_pos0 lack_sum (fun w x hx => by rw [mod_row]; exact normR_any w x hx) (r8 d0 d1 d2 d3 d4 d5 d6 d7) (fun t => by
    obtain ⟨h0, h1, h2, h3, h4, h5, h6, h7⟩ := hd
    rcases t with _ | _ | _ | _ | _ | _ | _ | _ | t <;> first | assumption | exact Nat.zero_lt_succ _)
  rw [r8_val, mod_row] at h
  exact h
end Go.Proofs.Ytbofhoonlmikcaa

end
section
namespace Go.Proofs.Ytbofhoonlmikcaa
open Go.RowKit Go.Lib

theorem below_alloc4 (w : World) (a b c d : Obj) : Below w.heap.size w ((((w.alloc a).alloc b).alloc c).alloc d) := (below_alloc3 w a b c).alloc (by simp <;> omega) _
theorem below_alloc5 (w : World) (a b c d e : Obj) : Below w.heap.size w (((((w.alloc a).alloc b).alloc c).alloc d).alloc e) := (below_alloc4 w a b c d).alloc (by simp <;> omega) _
theorem blk_new5 (w : World) (a b c d : Obj) (t : TypeId) (cs : Array Value) : Blk (((((w.alloc a).alloc b).alloc c).alloc d).alloc (.cells cs t)) (w.heap.size + 4) t cs := by
  have h := Blk.new ((((w.alloc a).alloc b).alloc c).alloc d) t cs
  have e : ((((w.alloc a).alloc b).alloc c).alloc d).heap.size = w.heap.size + 4 := by simp
  rwa [e] at h
section
variable {P : Program} {ops : Array Oper}
/-- a load of a number out of the beginning of a block -/
theorem YieldsG.loadP {o : Oper} {a : Act} {w : World} {d : TypeDesc} (hw : Region.wanted o (yielded ops a.tmps) = true) (ty : TypeId) (x : Operand) (ho : o.op = .load ty x)
    (g : Nat) (hx : a.eval x = .pointer (some ⟨g, 0, none⟩)) (n : Nat) (cs : List Value) (hl : g < w.heap.size) (hr : w.rangeAt g 0 cs) (hf : fv n = .agg cs.toArray)
    (hu : P.underlying ty = some d) (hd : d.isRow = true) (hi : (P.info? ty).map (·.size) = some cs.length) : YieldsG P ops o (fv n) a w := by
  rw [hf]
  exact YieldsG.load hw ty x ho g 0 hx cs d hl hr hu hd hi
end

set_option maxHeartbeats 8000000 in
set_option maxRecDepth 100000 in
theorem addR_any (w : World) (x y : Nat) (hx : x < 115792089237316195423570985008687907853269984665640564039457584007913129639936) (hy : y < 115792089237316195423570985008687907853269984665640564039457584007913129639936) : Calls Try.prog 62 #[.agg #[.int .u64 18446744069414583343, .int .u64 18446744073709551615, .int .u64 18446744073709551615, .int .u64 18446744073709551615, .int .u64 4294968273, .int .u64 0, .int .u64 0], fv x, fv y] w fun e w' => e = .returned (fv (addP x y)) ∧ Below w.heap.size w w' := by
  obtain ⟨x0, x1, x2, x3, a0, a1, a2, a3, ex, fx⟩ := words_of x hx
  obtain ⟨y0, y1, y2, y3, b0, b1, b2, b3, ey, fy⟩ := words_of y hy
  obtain ⟨s0, c0, d0, k0, e0, r0⟩ := add0_ex x0 y0 a0 b0
  obtain ⟨s1, c1, d1, k1, e1, r1⟩ := addc_ex x1 y1 c0 a1 b1 k0
  obtain ⟨s2, c2, d2, k2, e2, r2⟩ := addc_ex x2 y2 c1 a2 b2 k1
  obtain ⟨s3, c3, d3, k3, e3, r3⟩ := addc_ex x3 y3 c2 a3 b3 k2
  have fin : val8 s0 s1 s2 s3 c3 0 0 0 = x + y := by simp only [val8]; omega
  obtain ⟨z, hz⟩ : ∃ z, z = addP x y := ⟨_, rfl⟩
  have cF : ∀ w, Calls Try.prog 66 #[.agg #[.int .u64 18446744069414583343, .int .u64 18446744073709551615, .int .u64 18446744073709551615, .int .u64 18446744073709551615, .int .u64 4294968273, .int .u64 0, .int .u64 0], .agg #[.int .u64 (s0 : Int), .int .u64 (s1 : Int), .int .u64 (s2 : Int), .int .u64 (s3 : Int), .int .u64 (c3 : Int), .int .u64 0, .int .u64 0, .int .u64 0]] w fun e w' => e = .returned (fv z) ∧ Below w.heap.size w w' := by
    intro w
    have h := fold_any w s0 s1 s2 s3 c3 0 0 0 ⟨d0, d1, d2, d3, by omega, by omega, by omega, by omega⟩
    rw [fin] at h
    rw [hz]
    exact h
  rw [fx, fy, ← hz]
  clear fx fy ex ey hx hy hz a0 a1 a2 a3 b0 b1 b2 b3 d0 d1 d2 d3 k0 k1 k2 k3 e0 e1 e2 e3 fin
  go_enter Try.func62, Try.ntmps62
  go_wp2_with fail
  go_loopw [8, 9] (fun bo i wr => Below w.heap.size w wr ∧ Blk wr w.heap.size 49 #[.int .u64 18446744069414583343, .int .u64 18446744073709551615, .int .u64 18446744073709551615, .int .u64 18446744073709551615, .int .u64 4294968273, .int .u64 0, .int .u64 0] ∧ Blk wr (w.heap.size + 1) 45 #[.int .u64 (x0 : Int), .int .u64 (x1 : Int), .int .u64 (x2 : Int), .int .u64 (x3 : Int)] ∧ Blk wr (w.heap.size + 2) 45 #[.int .u64 (y0 : Int), .int .u64 (y1 : Int), .int .u64 (y2 : Int), .int .u64 (y3 : Int)] ∧ Blk wr (w.heap.size + 3) 45 #[.int .u64 0, .int .u64 0, .int .u64 0, .int .u64 0] ∧ Hid ((i = .int .i64 0 ∧ bo = .int .u64 0 ∧ Blk wr (w.heap.size + 4) 93 #[.int .u64 0, .int .u64 0, .int .u64 0, .int .u64 0, .int .u64 0, .int .u64 0, .int .u64 0, .int .u64 0]) ∨ (i = .int .i64 1 ∧ bo = .int .u64 (c0 : Int) ∧ Blk wr (w.heap.size + 4) 93 #[.int .u64 (s0 : Int), .int .u64 0, .int .u64 0, .int .u64 0, .int .u64 0, .int .u64 0, .int .u64 0, .int .u64 0]) ∨ (i = .int .i64 2 ∧ bo = .int .u64 (c1 : Int) ∧ Blk wr (w.heap.size + 4) 93 #[.int .u64 (s0 : Int), .int .u64 (s1 : Int), .int .u64 0, .int .u64 0, .int .u64 0, .int .u64 0, .int .u64 0, .int .u64 0]) ∨ (i = .int .i64 3 ∧ bo = .int .u64 (c2 : Int) ∧ Blk wr (w.heap.size + 4) 93 #[.int .u64 (s0 : Int), .int .u64 (s1 : Int), .int .u64 (s2 : Int), .int .u64 0, .int .u64 0, .int .u64 0, .int .u64 0, .int .u64 0]) ∨ (i = .int .i64 4 ∧ bo = .int .u64 (c3 : Int) ∧ Blk wr (w.heap.size + 4) 93 #[.int .u64 (s0 : Int), .int .u64 (s1 : Int), .int .u64 (s2 : Int), .int .u64 (s3 : Int), .int .u64 0, .int .u64 0, .int .u64 0, .int .u64 0]))) (fun _ i _ => 4 - (intOf i).toNat)
  case atStart => exact ⟨below_alloc5 w _ _ _ _ _, (((((Blk.new w _ _).alloc _).alloc _).alloc _).alloc _), ((((blk_new2 w _ _ _).alloc _).alloc _).alloc _), (((blk_new3 w _ _ _ _).alloc _).alloc _), ((blk_new4 w _ _ _ _ _).alloc _), Lib.hid (.inl ⟨rfl, rfl, blk_new5 w _ _ _ _ _ _⟩)⟩
  case round =>
    obtain ⟨hb, BM, BX, BY, BR, HI⟩ := hrel
    have lX := BX.lt
    have lY := BY.lt
    have lR := BR.lt
    rcases HI.out with ⟨rfl, rfl, BW⟩ | ⟨rfl, rfl, BW⟩ | ⟨rfl, rfl, BW⟩ | ⟨rfl, rfl, BW⟩ | ⟨rfl, rfl, BW⟩
    · clear HI
      have px : wr.cell? ⟨w.heap.size + 1, 0, none⟩ = some (.int .u64 (x0 : Int)) := BX.cell 0
      have py : wr.cell? ⟨w.heap.size + 2, 0, none⟩ = some (.int .u64 (y0 : Int)) := BY.cell 0
      go_wp2
      refine wp_region_G (fun _ => false) (by kernel_rfl) ?_
      try simp only [Act.put]
      refine wpAnyG_take 0 rfl (by kernel_rfl) (fun _ _ _ h => h) (YieldsG.pure (by rfl) (fun w9 _ => by go_simp; try with_reducible rfl)) ?_
      try simp only [Act.put, List.setIfInBounds_toArray, List.set_cons_zero, List.set_cons_succ]
      refine wpAnyG_take 1 rfl (by kernel_rfl) (fun _ _ _ h => h) (YieldsG.pure (by rfl) (fun w9 _ => by go_simp; try with_reducible rfl)) ?_
      try simp only [Act.put, List.setIfInBounds_toArray, List.set_cons_zero, List.set_cons_succ]
      refine wpAnyG_take 2 rfl (by kernel_rfl) (fun _ _ _ h => h) (YieldsG.pure (v := .int .u64 (x0 : Int)) (by rfl) (fun w9 h9 => by have hz := (Below.cell (p := ⟨w.heap.size + 1, 0, none⟩) h9 lX).trans px; go_simp; first | done | simp [hz])) ?_
      try simp only [Act.put, List.setIfInBounds_toArray, List.set_cons_zero, List.set_cons_succ]
      refine wpAnyG_take 3 rfl (by kernel_rfl) (fun _ _ _ h => h) (YieldsG.pure (by rfl) (fun w9 _ => by go_simp; try with_reducible rfl)) ?_
      try simp only [Act.put, List.setIfInBounds_toArray, List.set_cons_zero, List.set_cons_succ]
      refine wpAnyG_take 4 rfl (by kernel_rfl) (fun _ _ _ h => h) (YieldsG.pure (by rfl) (fun w9 _ => by go_simp; try with_reducible rfl)) ?_
      try simp only [Act.put, List.setIfInBounds_toArray, List.set_cons_zero, List.set_cons_succ]
      refine wpAnyG_take 5 rfl (by kernel_rfl) (fun _ _ _ h => h) (YieldsG.pure (v := .int .u64 (y0 : Int)) (by rfl) (fun w9 h9 => by have hz := (Below.cell (p := ⟨w.heap.size + 2, 0, none⟩) h9 lY).trans py; go_simp; first | done | simp [hz])) ?_
      try simp only [Act.put, List.setIfInBounds_toArray, List.set_cons_zero, List.set_cons_succ]
      refine wpAnyG_take 6 rfl (by kernel_rfl) (fun _ _ _ h => h) (YieldsG.pure (by rfl) (fun w9 _ => by go_simp; try with_reducible rfl)) ?_
      try simp only [Act.put, List.setIfInBounds_toArray, List.set_cons_zero, List.set_cons_succ]
      refine wpAnyG_take 7 rfl (by kernel_rfl) (fun _ _ _ h => h) (YieldsG.pure (v := .tuple #[.int .u64 (s0 : Int), .int .u64 (c0 : Int)]) (by rfl) (fun w9 h9 => by go_simp)) ?_
      try simp only [Act.put, List.setIfInBounds_toArray, List.set_cons_zero, List.set_cons_succ]
      refine wpAnyG_take 8 rfl (by kernel_rfl) (fun _ _ _ h => h) (YieldsG.pure (by rfl) (fun w9 _ => by go_simp; try with_reducible rfl)) ?_
      try simp only [Act.put, List.setIfInBounds_toArray, List.set_cons_zero, List.set_cons_succ]
      refine wpAnyG_take 9 rfl (by kernel_rfl) (fun _ _ _ h => h) (YieldsG.pure (by rfl) (fun w9 _ => by go_simp; try with_reducible rfl)) ?_
      try simp only [Act.put, List.setIfInBounds_toArray, List.set_cons_zero, List.set_cons_succ]
      refine wpAnyG_take 10 rfl (by kernel_rfl) (fun _ _ _ h => h) (YieldsG.pure (by rfl) (fun w9 _ => by go_simp; try with_reducible rfl)) ?_
      try simp only [Act.put, List.setIfInBounds_toArray, List.set_cons_zero, List.set_cons_succ]
      refine wpAnyG_take 11 rfl (by kernel_rfl) (fun _ _ _ h => h) (YieldsG.pure (by rfl) (fun w9 _ => by go_simp; try with_reducible rfl)) ?_
      try simp only [Act.put, List.setIfInBounds_toArray, List.set_cons_zero, List.set_cons_succ]
      refine wpAnyG_take 12 rfl (by kernel_rfl) (fun _ _ _ h => h) (YieldsG.pure (by rfl) (fun w9 _ => by go_simp; try with_reducible rfl)) ?_
      try simp only [Act.put, List.setIfInBounds_toArray, List.set_cons_zero, List.set_cons_succ]
      refine wpAnyG_done (by kernel_rfl) (fun u hu => ?_)
      have BM := Gr.blk hu BM
      have BX := Gr.blk hu BX
      have BY := Gr.blk hu BY
      have BR := Gr.blk hu BR
      have BW := Gr.blk hu BW
      have hb := Below.gr hb hu
      have pc : u.cell? ⟨w.heap.size + 4, 0, none⟩ = some (.int .u64 0) := BW.cell 0
      have pf := BW.frozen 0
      clear hu px py
      go_wp2
      refine ⟨⟨hb.setCell (by show w.heap.size ≤ w.heap.size + 4; omega) _, BM.far (by show w.heap.size ≠ w.heap.size + 4; omega) _, BX.far (by show w.heap.size + 1 ≠ w.heap.size + 4; omega) _, BY.far (by show w.heap.size + 2 ≠ w.heap.size + 4; omega) _, BR.far (by show w.heap.size + 3 ≠ w.heap.size + 4; omega) _, Lib.hid (.inr (.inl (⟨rfl, rfl, BW.set_ 0 _⟩)))⟩, by decide⟩
    · clear HI
      have px : wr.cell? ⟨w.heap.size + 1, 1, none⟩ = some (.int .u64 (x1 : Int)) := BX.cell 1
      have py : wr.cell? ⟨w.heap.size + 2, 1, none⟩ = some (.int .u64 (y1 : Int)) := BY.cell 1
      go_wp2
      refine wp_region_G (fun _ => false) (by kernel_rfl) ?_
      try simp only [Act.put]
      refine wpAnyG_take 0 rfl (by kernel_rfl) (fun _ _ _ h => h) (YieldsG.pure (by rfl) (fun w9 _ => by go_simp; try with_reducible rfl)) ?_
      try simp only [Act.put, List.setIfInBounds_toArray, List.set_cons_zero, List.set_cons_succ]
      refine wpAnyG_take 1 rfl (by kernel_rfl) (fun _ _ _ h => h) (YieldsG.pure (by rfl) (fun w9 _ => by go_simp; try with_reducible rfl)) ?_
      try simp only [Act.put, List.setIfInBounds_toArray, List.set_cons_zero, List.set_cons_succ]
      refine wpAnyG_take 2 rfl (by kernel_rfl) (fun _ _ _ h => h) (YieldsG.pure (v := .int .u64 (x1 : Int)) (by rfl) (fun w9 h9 => by have hz := (Below.cell (p := ⟨w.heap.size + 1, 1, none⟩) h9 lX).trans px; go_simp; first | done | simp [hz])) ?_
      try simp only [Act.put, List.setIfInBounds_toArray, List.set_cons_zero, List.set_cons_succ]
      refine wpAnyG_take 3 rfl (by kernel_rfl) (fun _ _ _ h => h) (YieldsG.pure (by rfl) (fun w9 _ => by go_simp; try with_reducible rfl)) ?_
      try simp only [Act.put, List.setIfInBounds_toArray, List.set_cons_zero, List.set_cons_succ]
      refine wpAnyG_take 4 rfl (by kernel_rfl) (fun _ _ _ h => h) (YieldsG.pure (by rfl) (fun w9 _ => by go_simp; try with_reducible rfl)) ?_
      try simp only [Act.put, List.setIfInBounds_toArray, List.set_cons_zero, List.set_cons_succ]
      refine wpAnyG_take 5 rfl (by kernel_rfl) (fun _ _ _ h => h) (YieldsG.pure (v := .int .u64 (y1 : Int)) (by rfl) (fun w9 h9 => by have hz := (Below.cell (p := ⟨w.heap.size + 2, 1, none⟩) h9 lY).trans py; go_simp; first | done | simp [hz])) ?_
      try simp only [Act.put, List.setIfInBounds_toArray, List.set_cons_zero, List.set_cons_succ]
      refine wpAnyG_take 6 rfl (by kernel_rfl) (fun _ _ _ h => h) (YieldsG.pure (by rfl) (fun w9 _ => by go_simp; try with_reducible rfl)) ?_
      try simp only [Act.put, List.setIfInBounds_toArray, List.set_cons_zero, List.set_cons_succ]
      refine wpAnyG_take 7 rfl (by kernel_rfl) (fun _ _ _ h => h) (YieldsG.pure (v := .tuple #[.int .u64 (s1 : Int), .int .u64 (c1 : Int)]) (by rfl) (fun w9 h9 => by go_simp)) ?_
      try simp only [Act.put, List.setIfInBounds_toArray, List.set_cons_zero, List.set_cons_succ]
      refine wpAnyG_take 8 rfl (by kernel_rfl) (fun _ _ _ h => h) (YieldsG.pure (by rfl) (fun w9 _ => by go_simp; try with_reducible rfl)) ?_
      try simp only [Act.put, List.setIfInBounds_toArray, List.set_cons_zero, List.set_cons_succ]
      refine wpAnyG_take 9 rfl (by kernel_rfl) (fun _ _ _ h => h) (YieldsG.pure (by rfl) (fun w9 _ => by go_simp; try with_reducible rfl)) ?_
      try simp only [Act.put, List.setIfInBounds_toArray, List.set_cons_zero, List.set_cons_succ]
      refine wpAnyG_take 10 rfl (by kernel_rfl) (fun _ _ _ h => h) (YieldsG.pure (by rfl) (fun w9 _ => by go_simp; try with_reducible rfl)) ?_
      try simp only [Act.put, List.setIfInBounds_toArray, List.set_cons_zero, List.set_cons_succ]
      refine wpAnyG_take 11 rfl (by kernel_rfl) (fun _ _ _ h => h) (YieldsG.pure (by rfl) (fun w9 _ => by go_simp; try with_reducible rfl)) ?_
      try simp only [Act.put, List.setIfInBounds_toArray, List.set_cons_zero, List.set_cons_succ]
      refine wpAnyG_take 12 rfl (by kernel_rfl) (fun _ _ _ h => h) (YieldsG.pure (by rfl) (fun w9 _ => by go_simp; try with_reducible rfl)) ?_
      try simp only [Act.put, List.setIfInBounds_toArray, List.set_cons_zero, List.set_cons_succ]
      refine wpAnyG_done (by kernel_rfl) (fun u hu => ?_)
      have BM := Gr.blk hu BM
      have BX := Gr.blk hu BX
      have BY := Gr.blk hu BY
      have BR := Gr.blk hu BR
      have BW := Gr.blk hu BW
      have hb := Below.gr hb hu
      have pc : u.cell? ⟨w.heap.size + 4, 1, none⟩ = some (.int .u64 0) := BW.cell 1
      have pf := BW.frozen 1
      clear hu px py
      go_wp2
      refine ⟨⟨hb.setCell (by show w.heap.size ≤ w.heap.size + 4; omega) _, BM.far (by show w.heap.size ≠ w.heap.size + 4; omega) _, BX.far (by show w.heap.size + 1 ≠ w.heap.size + 4; omega) _, BY.far (by show w.heap.size + 2 ≠ w.heap.size + 4; omega) _, BR.far (by show w.heap.size + 3 ≠ w.heap.size + 4; omega) _, Lib.hid (.inr (.inr (.inl (⟨rfl, rfl, BW.set_ 1 _⟩))))⟩, by decide⟩
    · clear HI
      have px : wr.cell? ⟨w.heap.size + 1, 2, none⟩ = some (.int .u64 (x2 : Int)) := BX.cell 2
      have py : wr.cell? ⟨w.heap.size + 2, 2, none⟩ = some (.int .u64 (y2 : Int)) := BY.cell 2
      go_wp2
      refine wp_region_G (fun _ => false) (by kernel_rfl) ?_
      try simp only [Act.put]
      refine wpAnyG_take 0 rfl (by kernel_rfl) (fun _ _ _ h => h) (YieldsG.pure (by rfl) (fun w9 _ => by go_simp; try with_reducible rfl)) ?_
      try simp only [Act.put, List.setIfInBounds_toArray, List.set_cons_zero, List.set_cons_succ]
      refine wpAnyG_take 1 rfl (by kernel_rfl) (fun _ _ _ h => h) (YieldsG.pure (by rfl) (fun w9 _ => by go_simp; try with_reducible rfl)) ?_
      try simp only [Act.put, List.setIfInBounds_toArray, List.set_cons_zero, List.set_cons_succ]
      refine wpAnyG_take 2 rfl (by kernel_rfl) (fun _ _ _ h => h) (YieldsG.pure (v := .int .u64 (x2 : Int)) (by rfl) (fun w9 h9 => by have hz := (Below.cell (p := ⟨w.heap.size + 1, 2, none⟩) h9 lX).trans px; go_simp; first | done | simp [hz])) ?_
      try simp only [Act.put, List.setIfInBounds_toArray, List.set_cons_zero, List.set_cons_succ]
      refine wpAnyG_take 3 rfl (by kernel_rfl) (fun _ _ _ h => h) (YieldsG.pure (by rfl) (fun w9 _ => by go_simp; try with_reducible rfl)) ?_
      try simp only [Act.put, List.setIfInBounds_toArray, List.set_cons_zero, List.set_cons_succ]
      refine wpAnyG_take 4 rfl (by kernel_rfl) (fun _ _ _ h => h) (YieldsG.pure (by rfl) (fun w9 _ => by go_simp; try with_reducible rfl)) ?_
      try simp only [Act.put, List.setIfInBounds_toArray, List.set_cons_zero, List.set_cons_succ]
      refine wpAnyG_take 5 rfl (by kernel_rfl) (fun _ _ _ h => h) (YieldsG.pure (v := .int .u64 (y2 : Int)) (by rfl) (fun w9 h9 => by have hz := (Below.cell (p := ⟨w.heap.size + 2, 2, none⟩) h9 lY).trans py; go_simp; first | done | simp [hz])) ?_
      try simp only [Act.put, List.setIfInBounds_toArray, List.set_cons_zero, List.set_cons_succ]
      refine wpAnyG_take 6 rfl (by kernel_rfl) (fun _ _ _ h => h) (YieldsG.pure (by rfl) (fun w9 _ => by go_simp; try with_reducible rfl)) ?_
      try simp only [Act.put, List.setIfInBounds_toArray, List.set_cons_zero, List.set_cons_succ]
      refine wpAnyG_take 7 rfl (by kernel_rfl) (fun _ _ _ h => h) (YieldsG.pure (v := .tuple #[.int .u64 (s2 : Int), .int .u64 (c2 : Int)]) (by rfl) (fun w9 h9 => by go_simp)) ?_
      try simp only [Act.put, List.setIfInBounds_toArray, List.set_cons_zero, List.set_cons_succ]
      refine wpAnyG_take 8 rfl (by kernel_rfl) (fun _ _ _ h => h) (YieldsG.pure (by rfl) (fun w9 _ => by go_simp; try with_reducible rfl)) ?_
      try simp only [Act.put, List.setIfInBounds_toArray, List.set_cons_zero, List.set_cons_succ]
      refine wpAnyG_take 9 rfl (by kernel_rfl) (fun _ _ _ h => h) (YieldsG.pure (by rfl) (fun w9 _ => by go_simp; try with_reducible rfl)) ?_
      try simp only [Act.put, List.setIfInBounds_toArray, List.set_cons_zero, List.set_cons_succ]
      refine wpAnyG_take 10 rfl (by kernel_rfl) (fun _ _ _ h => h) (YieldsG.pure (by rfl) (fun w9 _ => by go_simp; try with_reducible rfl)) ?_
      try simp only [Act.put, List.setIfInBounds_toArray, List.set_cons_zero, List.set_cons_succ]
      refine wpAnyG_take 11 rfl (by kernel_rfl) (fun _ _ _ h => h) (YieldsG.pure (by rfl) (fun w9 _ => by go_simp; try with_reducible rfl)) ?_
      try simp only [Act.put, List.setIfInBounds_toArray, List.set_cons_zero, List.set_cons_succ]
      refine wpAnyG_take 12 rfl (by kernel_rfl) (fun _ _ _ h => h) (YieldsG.pure (by rfl) (fun w9 _ => by go_simp; try with_reducible rfl)) ?_
      try simp only [Act.put, List.setIfInBounds_toArray, List.set_cons_zero, List.set_cons_succ]
      refine wpAnyG_done (by kernel_rfl) (fun u hu => ?_)
      have BM := Gr.blk hu BM
      have BX := Gr.blk hu BX
      have BY := Gr.blk hu BY
      have BR := Gr.blk hu BR
      have BW := Gr.blk hu BW
      have hb := Below.gr hb hu
      have pc : u.cell? ⟨w.heap.size + 4, 2, none⟩ = some (.int .u64 0) := BW.cell 2
      have pf := BW.frozen 2
      clear hu px py
      go_wp2
      refine ⟨⟨hb.setCell (by show w.heap.size ≤ w.heap.size + 4; omega) _, BM.far (by show w.heap.size ≠ w.heap.size + 4; omega) _, BX.far (by show w.heap.size + 1 ≠ w.heap.size + 4; omega) _, BY.far (by show w.heap.size + 2 ≠ w.heap.size + 4; omega) _, BR.far (by show w.heap.size + 3 ≠ w.heap.size + 4; omega) _, Lib.hid (.inr (.inr (.inr (.inl (⟨rfl, rfl, BW.set_ 2 _⟩)))))⟩, by decide⟩
    · clear HI
      have px : wr.cell? ⟨w.heap.size + 1, 3, none⟩ = some (.int .u64 (x3 : Int)) := BX.cell 3
      have py : wr.cell? ⟨w.heap.size + 2, 3, none⟩ = some (.int .u64 (y3 : Int)) := BY.cell 3
      go_wp2
      refine wp_region_G (fun _ => false) (by kernel_rfl) ?_
      try simp only [Act.put]
      refine wpAnyG_take 0 rfl (by kernel_rfl) (fun _ _ _ h => h) (YieldsG.pure (by rfl) (fun w9 _ => by go_simp; try with_reducible rfl)) ?_
      try simp only [Act.put, List.setIfInBounds_toArray, List.set_cons_zero, List.set_cons_succ]
      refine wpAnyG_take 1 rfl (by kernel_rfl) (fun _ _ _ h => h) (YieldsG.pure (by rfl) (fun w9 _ => by go_simp; try with_reducible rfl)) ?_
      try simp only [Act.put, List.setIfInBounds_toArray, List.set_cons_zero, List.set_cons_succ]
      refine wpAnyG_take 2 rfl (by kernel_rfl) (fun _ _ _ h => h) (YieldsG.pure (v := .int .u64 (x3 : Int)) (by rfl) (fun w9 h9 => by have hz := (Below.cell (p := ⟨w.heap.size + 1, 3, none⟩) h9 lX).trans px; go_simp; first | done | simp [hz])) ?_
      try simp only [Act.put, List.setIfInBounds_toArray, List.set_cons_zero, List.set_cons_succ]
      refine wpAnyG_take 3 rfl (by kernel_rfl) (fun _ _ _ h => h) (YieldsG.pure (by rfl) (fun w9 _ => by go_simp; try with_reducible rfl)) ?_
      try simp only [Act.put, List.setIfInBounds_toArray, List.set_cons_zero, List.set_cons_succ]
      refine wpAnyG_take 4 rfl (by kernel_rfl) (fun _ _ _ h => h) (YieldsG.pure (by rfl) (fun w9 _ => by go_simp; try with_reducible rfl)) ?_
      try simp only [Act.put, List.setIfInBounds_toArray, List.set_cons_zero, List.set_cons_succ]
      refine wpAnyG_take 5 rfl (by kernel_rfl) (fun _ _ _ h => h) (YieldsG.pure (v := .int .u64 (y3 : Int)) (by rfl) (fun w9 h9 => by have hz := (Below.cell (p := ⟨w.heap.size + 2, 3, none⟩) h9 lY).trans py; go_simp; first | done | simp [hz])) ?_
      try simp only [Act.put, List.setIfInBounds_toArray, List.set_cons_zero, List.set_cons_succ]
      refine wpAnyG_take 6 rfl (by kernel_rfl) (fun _ _ _ h => h) (YieldsG.pure (by rfl) (fun w9 _ => by go_simp; try with_reducible rfl)) ?_
      try simp only [Act.put, List.setIfInBounds_toArray, List.set_cons_zero, List.set_cons_succ]
      refine wpAnyG_take 7 rfl (by kernel_rfl) (fun _ _ _ h => h) (YieldsG.pure (v := .tuple #[.int .u64 (s3 : Int), .int .u64 (c3 : Int)]) (by rfl) (fun w9 h9 => by go_simp)) ?_
      try simp only [Act.put, List.setIfInBounds_toArray, List.set_cons_zero, List.set_cons_succ]
      refine wpAnyG_take 8 rfl (by kernel_rfl) (fun _ _ _ h => h) (YieldsG.pure (by rfl) (fun w9 _ => by go_simp; try with_reducible rfl)) ?_
      try simp only [Act.put, List.setIfInBounds_toArray, List.set_cons_zero, List.set_cons_succ]
      refine wpAnyG_take 9 rfl (by kernel_rfl) (fun _ _ _ h => h) (YieldsG.pure (by rfl) (fun w9 _ => by go_simp; try with_reducible rfl)) ?_
      try simp only [Act.put, List.setIfInBounds_toArray, List.set_cons_zero, List.set_cons_succ]
      refine wpAnyG_take 10 rfl (by kernel_rfl) (fun _ _ _ h => h) (YieldsG.pure (by rfl) (fun w9 _ => by go_simp; try with_reducible rfl)) ?_
      try simp only [Act.put, List.setIfInBounds_toArray, List.set_cons_zero, List.set_cons_succ]
      refine wpAnyG_take 11 rfl (by kernel_rfl) (fun _ _ _ h => h) (YieldsG.pure (by rfl) (fun w9 _ => by go_simp; try with_reducible rfl)) ?_
      try simp only [Act.put, List.setIfInBounds_toArray, List.set_cons_zero, List.set_cons_succ]
      refine wpAnyG_take 12 rfl (by kernel_rfl) (fun _ _ _ h => h) (YieldsG.pure (by rfl) (fun w9 _ => by go_simp; try with_reducible rfl)) ?_
      try simp only [Act.put, List.setIfInBounds_toArray, List.set_cons_zero, List.set_cons_succ]
      refine wpAnyG_done (by kernel_rfl) (fun u hu => ?_)
      have BM := Gr.blk hu BM
      have BX := Gr.blk hu BX
      have BY := Gr.blk hu BY
      have BR := Gr.blk hu BR
      have BW := Gr.blk hu BW
      have hb := Below.gr hb hu
      have pc : u.cell? ⟨w.heap.size + 4, 3, none⟩ = some (.int .u64 0) := BW.cell 3
      have pf := BW.frozen 3
      clear hu px py
      go_wp2
      refine ⟨⟨hb.setCell (by show w.heap.size ≤ w.heap.size + 4; omega) _, BM.far (by show w.heap.size ≠ w.heap.size + 4; omega) _, BX.far (by show w.heap.size + 1 ≠ w.heap.size + 4; omega) _, BY.far (by show w.heap.size + 2 ≠ w.heap.size + 4; omega) _, BR.far (by show w.heap.size + 3 ≠ w.heap.size + 4; omega) _, Lib.hid (.inr (.inr (.inr (.inr (⟨rfl, rfl, BW.set_ 3 _⟩)))))⟩, by decide⟩
    · clear HI
      have pc : wr.cell? ⟨w.heap.size + 4, 4, none⟩ = some (.int .u64 0) := BW.cell 4
      have pf := BW.frozen 4
      have BM4 : Blk (wr.setCell ⟨w.heap.size + 4, 4, none⟩ (.int .u64 (c3 : Int))) w.heap.size 49 #[.int .u64 18446744069414583343, .int .u64 18446744073709551615, .int .u64 18446744073709551615, .int .u64 18446744073709551615, .int .u64 4294968273, .int .u64 0, .int .u64 0] := BM.far (by show w.heap.size ≠ w.heap.size + 4; omega) _
      have BW4 : Blk (wr.setCell ⟨w.heap.size + 4, 4, none⟩ (.int .u64 (c3 : Int))) (w.heap.size + 4) 93 #[.int .u64 (s0 : Int), .int .u64 (s1 : Int), .int .u64 (s2 : Int), .int .u64 (s3 : Int), .int .u64 (c3 : Int), .int .u64 0, .int .u64 0, .int .u64 0] := BW.set_ 4 _
      have BR4 : Blk (wr.setCell ⟨w.heap.size + 4, 4, none⟩ (.int .u64 (c3 : Int))) (w.heap.size + 3) 45 #[.int .u64 0, .int .u64 0, .int .u64 0, .int .u64 0] := BR.far (by show w.heap.size + 3 ≠ w.heap.size + 4; omega) _
      have hb4 : Below w.heap.size w (wr.setCell ⟨w.heap.size + 4, 4, none⟩ (.int .u64 (c3 : Int))) := hb.setCell (by show w.heap.size ≤ w.heap.size + 4; omega) _
      have H4 := Lib.hid (And.intro BM4 (And.intro BW4 (And.intro BR4 hb4)))
      clear BM BX BY BR BW hb BM4 BW4 BR4 hb4
      go_wp2_with (first | ((with_reducible refine here_load (d := some 33) ?_); refine wpList_load_blk rfl _ _ rfl w.heap.size rfl _ _ _ H4.out.1 Try.underlying49 rfl (by kernel_rfl) ?_) | ((with_reducible refine here_load (d := some 34) ?_); refine wpList_load_blk rfl _ _ rfl (w.heap.size + 4) rfl _ _ _ H4.out.2.1 Try.underlying93 rfl (by kernel_rfl) ?_))
      refine (cF _).mono ?_
      rintro e u ⟨rfl, hu⟩
      have BRu := Gr.blk hu H4.out.2.2.1
      have hbu := Below.gr H4.out.2.2.2 hu
      clear hu H4 cF
      go_wp2_with (first | ((with_reducible refine here_store ?_); refine wpList_store_blk rfl _ _ _ rfl (w.heap.size + 3) (fcs (z)) rfl rfl _ _ (BRu) (by kernel_rfl) (by rfl) (fcs_one _) ?_; intro w9 hL9 hB9 hK9))
      exact bodyPost_ret (results_cell_row rfl _ _ (w.heap.size + 3) _ _ (0, 0) _ rfl hL9 Try.underlying45 rfl (by kernel_rfl)) rfl ⟨rfl, hbu.trans (hB9 _ (by omega))⟩

set_option maxHeartbeats 2000000 in
set_option maxRecDepth 100000 in
theorem negR_any (w : World) (x : Nat) (hx : x < 115792089237316195423570985008687907853269984665640564039457584007913129639936) : Calls Try.prog 81 #[.agg #[.int .u64 18446744069414583343, .int .u64 18446744073709551615, .int .u64 18446744073709551615, .int .u64 18446744073709551615, .int .u64 4294968273, .int .u64 0, .int .u64 0], fv x] w fun e w' => e = .returned (fv (negP x)) ∧ Below w.heap.size w w' := by
  obtain ⟨n, hn⟩ : ∃ n, n = x % pM := ⟨_, rfl⟩
  have np : n < 115792089237316195423570985008687907853269984665640564039457584007908834671663 := by rw [hn]; exact mod_lt_p x
  obtain ⟨p, hp⟩ : ∃ p, p = 115792089237316195423570985008687907853269984665640564039457584007908834671663 := ⟨_, rfl⟩
  obtain ⟨q, hq⟩ : ∃ q, q = p - n := ⟨_, rfl⟩
  obtain ⟨g, hg⟩ : ∃ g, g = negP x := ⟨_, rfl⟩
  have hgq : q % pM = g := by rw [hg, negP, ← hn, hq, hp]; rfl
  have cN : ∀ w, Calls Try.prog 18 #[.agg #[.int .u64 18446744069414583343, .int .u64 18446744073709551615, .int .u64 18446744073709551615, .int .u64 18446744073709551615, .int .u64 4294968273, .int .u64 0, .int .u64 0], fv x] w fun e w' => e = .returned (fv n) ∧ Below w.heap.size w w' := by
    intro w; rw [hn]; exact normR_any w x hx
  have cM : ∀ w, Calls Try.prog 38 #[fv p, fv n] w fun e w' => e = .returned (fv q) ∧ Below w.heap.size w w' := fun w => minusR_at w p n q 0 rfl rfl (by omega) (by omega) (by omega) (by omega)
  have cG : ∀ w, Calls Try.prog 18 #[.agg #[.int .u64 18446744069414583343, .int .u64 18446744073709551615, .int .u64 18446744073709551615, .int .u64 18446744073709551615, .int .u64 4294968273, .int .u64 0, .int .u64 0], fv q] w fun e w' => e = .returned (fv g) ∧ Below w.heap.size w w' := by
    intro w; rw [← hgq]; exact normR_any w q (by omega)
  have FP : Hid (fv p = .agg #[.int .u64 18446744069414583343, .int .u64 18446744073709551615, .int .u64 18446744073709551615, .int .u64 18446744073709551615]) := Lib.hid (by rw [hp]; exact fv_P)
  obtain ⟨x0, x1, x2, x3, fx⟩ := words_fv x hx
  have FX := Lib.hid fx
  rw [fx, ← hg]
  clear fx hx hn np hp hq hg hgq
  go_enter Try.func81, Try.ntmps81
  go_wp2
  refine wp_region_G (fun j => j == 8) (by kernel_rfl) ?_
  try simp only [Act.put]
  refine wpAnyG_take 0 rfl (by kernel_rfl) (fun _ _ _ h => h) (YieldsG.load (by rfl) _ _ rfl w.heap.size 0 rfl ([.int .u64 18446744069414583343, .int .u64 18446744073709551615, .int .u64 18446744073709551615, .int .u64 18446744073709551615, .int .u64 4294968273, .int .u64 0, .int .u64 0]) _ (Blk.lt (((Blk.new w _ _).alloc _).alloc _)) (Blk.range (((Blk.new w _ _).alloc _).alloc _)) Try.underlying49 rfl (by kernel_rfl)) ?_
  try simp only [Act.put, List.setIfInBounds_toArray, List.set_cons_zero, List.set_cons_succ]
  refine wpAnyG_take 1 rfl (by kernel_rfl) (fun _ _ _ h => h) (YieldsG.pure (by rfl) (fun w9 _ => by go_simp; try with_reducible rfl)) ?_
  try simp only [Act.put, List.setIfInBounds_toArray, List.set_cons_zero, List.set_cons_succ]
  refine wpAnyG_take 2 rfl (by kernel_rfl) (fun _ _ _ h => h) (YieldsG.loadP (by rfl) _ _ rfl w.heap.size rfl p _ (Blk.lt (((Blk.new w _ _).alloc _).alloc _)) (mod_range (((Blk.new w _ _).alloc _).alloc _)) FP.out Try.underlying45 rfl (by kernel_rfl)) ?_
  try simp only [Act.put, List.setIfInBounds_toArray, List.set_cons_zero, List.set_cons_succ]
  refine wpAnyG_take 3 rfl (by kernel_rfl) (fun _ _ _ h => h) (YieldsG.load (by rfl) _ _ rfl w.heap.size 0 rfl ([.int .u64 18446744069414583343, .int .u64 18446744073709551615, .int .u64 18446744073709551615, .int .u64 18446744073709551615, .int .u64 4294968273, .int .u64 0, .int .u64 0]) _ (Blk.lt (((Blk.new w _ _).alloc _).alloc _)) (Blk.range (((Blk.new w _ _).alloc _).alloc _)) Try.underlying49 rfl (by kernel_rfl)) ?_
  try simp only [Act.put, List.setIfInBounds_toArray, List.set_cons_zero, List.set_cons_succ]
  refine wpAnyG_take 4 rfl (by kernel_rfl) (fun _ _ _ h => h) (YieldsG.loadF (by rfl) _ _ rfl (w.heap.size + 1) rfl (x) _ _ ((blk_new2 w _ _ _).alloc _) (FX.out) Try.underlying45 rfl (by kernel_rfl)) ?_
  try simp only [Act.put, List.setIfInBounds_toArray, List.set_cons_zero, List.set_cons_succ]
  refine wpAnyG_take 5 rfl (by kernel_rfl) (fun _ _ _ h => h) (YieldsG.call (v := fv n) (by rfl) 18 _ (fun w9 => by go_simp; try (first | with_reducible rfl | rfl)) (fun w9 h9 => cN w9)) ?_
  try simp only [Act.put, List.setIfInBounds_toArray, List.set_cons_zero, List.set_cons_succ]
  refine wpAnyG_take 6 rfl (by kernel_rfl) (fun _ _ _ h => h) (YieldsG.call (v := fv q) (by rfl) 38 _ (fun w9 => by go_simp; try (first | with_reducible rfl | rfl)) (fun w9 h9 => cM w9)) ?_
  try simp only [Act.put, List.setIfInBounds_toArray, List.set_cons_zero, List.set_cons_succ]
  refine wpAnyG_take 7 rfl (by kernel_rfl) (fun _ _ _ h => h) (YieldsG.call (v := fv g) (by rfl) 18 _ (fun w9 => by go_simp; try (first | with_reducible rfl | rfl)) (fun w9 h9 => cG w9)) ?_
  try simp only [Act.put, List.setIfInBounds_toArray, List.set_cons_zero, List.set_cons_succ]
  refine wpAnyG_store 8 rfl (by kernel_rfl) (by rfl) _ _ _ rfl (w.heap.size + 2) (fcs (g)) rfl rfl _ _ (blk_new3 w _ _ _ _) (by kernel_rfl) (by rfl) (fcs_one _) rfl (fun w6 h6 w7 hB7 hL7 => ?_)
  try simp only [Act.put]
  refine wpAnyG_done (by kernel_rfl) (fun w8 h8 => ?_)
  have hfin := Gr.blk h8 hL7
  have hb9 := (Below.gr (below_alloc3 w _ _ _) h6).trans ((hB7 _ (by omega)).trans (Below.mono h8 (by have := hL7.lt; omega)))
  go_wp2
  exact bodyPost_ret (results_cell_row rfl _ _ (w.heap.size + 2) _ _ (0, 0) _ rfl hfin Try.underlying45 rfl (by kernel_rfl)) rfl ⟨rfl, hb9⟩

theorem sub_is (x y : Nat) : addP x (negP y) = subP x y := by
  unfold addP negP subP
  rw [Nat.add_mod_mod]
set_option maxHeartbeats 2000000 in
set_option maxRecDepth 100000 in
theorem subR_any (w : World) (x y : Nat) (hx : x < 115792089237316195423570985008687907853269984665640564039457584007913129639936) (hy : y < 115792089237316195423570985008687907853269984665640564039457584007913129639936) : Calls Try.prog 63 #[.agg #[.int .u64 18446744069414583343, .int .u64 18446744073709551615, .int .u64 18446744073709551615, .int .u64 18446744073709551615, .int .u64 4294968273, .int .u64 0, .int .u64 0], fv x, fv y] w fun e w' => e = .returned (fv (subP x y)) ∧ Below w.heap.size w w' := by
  obtain ⟨g, hg⟩ : ∃ g, g = negP y := ⟨_, rfl⟩
  obtain ⟨z, hz⟩ : ∃ z, z = subP x y := ⟨_, rfl⟩
  have cG : ∀ w, Calls Try.prog 81 #[.agg #[.int .u64 18446744069414583343, .int .u64 18446744073709551615, .int .u64 18446744073709551615, .int .u64 18446744073709551615, .int .u64 4294968273, .int .u64 0, .int .u64 0], fv y] w fun e w' => e = .returned (fv g) ∧ Below w.heap.size w w' := by
    intro w; rw [hg]; exact negR_any w y hy
  have cA : ∀ w, Calls Try.prog 62 #[.agg #[.int .u64 18446744069414583343, .int .u64 18446744073709551615, .int .u64 18446744073709551615, .int .u64 18446744073709551615, .int .u64 4294968273, .int .u64 0, .int .u64 0], fv x, fv g] w fun e w' => e = .returned (fv z) ∧ Below w.heap.size w w' := by
    intro w; rw [hz, ← sub_is, ← hg]; exact addR_any w x g hx (by rw [hg]; exact negP_lt _)
  obtain ⟨x0, x1, x2, x3, fx⟩ := words_fv x hx
  obtain ⟨y0, y1, y2, y3, fy⟩ := words_fv y hy
  have FX := Lib.hid fx
  have FY := Lib.hid fy
  rw [fx, fy, ← hz]
  clear fx fy hx hy hg hz
  go_enter Try.func63, Try.ntmps63
  go_wp2
  refine wp_region_G (fun j => j == 6) (by kernel_rfl) ?_
  try simp only [Act.put]
  refine wpAnyG_take 0 rfl (by kernel_rfl) (fun _ _ _ h => h) (YieldsG.load (by rfl) _ _ rfl w.heap.size 0 rfl ([.int .u64 18446744069414583343, .int .u64 18446744073709551615, .int .u64 18446744073709551615, .int .u64 18446744073709551615, .int .u64 4294968273, .int .u64 0, .int .u64 0]) _ (Blk.lt ((((Blk.new w _ _).alloc _).alloc _).alloc _)) (Blk.range ((((Blk.new w _ _).alloc _).alloc _).alloc _)) Try.underlying49 rfl (by kernel_rfl)) ?_
  try simp only [Act.put, List.setIfInBounds_toArray, List.set_cons_zero, List.set_cons_succ]
  refine wpAnyG_take 1 rfl (by kernel_rfl) (fun _ _ _ h => h) (YieldsG.loadF (by rfl) _ _ rfl (w.heap.size + 1) rfl (x) _ _ (((blk_new2 w _ _ _).alloc _).alloc _) (FX.out) Try.underlying45 rfl (by kernel_rfl)) ?_
  try simp only [Act.put, List.setIfInBounds_toArray, List.set_cons_zero, List.set_cons_succ]
  refine wpAnyG_take 2 rfl (by kernel_rfl) (fun _ _ _ h => h) (YieldsG.load (by rfl) _ _ rfl w.heap.size 0 rfl ([.int .u64 18446744069414583343, .int .u64 18446744073709551615, .int .u64 18446744073709551615, .int .u64 18446744073709551615, .int .u64 4294968273, .int .u64 0, .int .u64 0]) _ (Blk.lt ((((Blk.new w _ _).alloc _).alloc _).alloc _)) (Blk.range ((((Blk.new w _ _).alloc _).alloc _).alloc _)) Try.underlying49 rfl (by kernel_rfl)) ?_
  try simp only [Act.put, List.setIfInBounds_toArray, List.set_cons_zero, List.set_cons_succ]
  refine wpAnyG_take 3 rfl (by kernel_rfl) (fun _ _ _ h => h) (YieldsG.loadF (by rfl) _ _ rfl (w.heap.size + 2) rfl (y) _ _ ((blk_new3 w _ _ _ _).alloc _) (FY.out) Try.underlying45 rfl (by kernel_rfl)) ?_
  try simp only [Act.put, List.setIfInBounds_toArray, List.set_cons_zero, List.set_cons_succ]
  refine wpAnyG_take 4 rfl (by kernel_rfl) (fun _ _ _ h => h) (YieldsG.call (v := fv g) (by rfl) 81 _ (fun w9 => by go_simp; try (first | with_reducible rfl | rfl)) (fun w9 h9 => cG w9)) ?_
  try simp only [Act.put, List.setIfInBounds_toArray, List.set_cons_zero, List.set_cons_succ]
  refine wpAnyG_take 5 rfl (by kernel_rfl) (fun _ _ _ h => h) (YieldsG.call (v := fv z) (by rfl) 62 _ (fun w9 => by go_simp; try (first | with_reducible rfl | rfl)) (fun w9 h9 => cA w9)) ?_
  try simp only [Act.put, List.setIfInBounds_toArray, List.set_cons_zero, List.set_cons_succ]
  refine wpAnyG_store 6 rfl (by kernel_rfl) (by rfl) _ _ _ rfl (w.heap.size + 3) (fcs (z)) rfl rfl _ _ (blk_new4 w _ _ _ _ _) (by kernel_rfl) (by rfl) (fcs_one _) rfl (fun w6 h6 w7 hB7 hL7 => ?_)
  try simp only [Act.put]
  refine wpAnyG_done (by kernel_rfl) (fun w8 h8 => ?_)
  have hfin := Gr.blk h8 hL7
  have hb9 := (Below.gr (below_alloc4 w _ _ _ _) h6).trans ((hB7 _ (by omega)).trans (Below.mono h8 (by have := hL7.lt; omega)))
  go_wp2
  exact bodyPost_ret (results_cell_row rfl _ _ (w.heap.size + 3) _ _ (0, 0) _ rfl hfin Try.underlying45 rfl (by kernel_rfl)) rfl ⟨rfl, hb9⟩
end Go.Proofs.Ytbofhoonlmikcaa

end
