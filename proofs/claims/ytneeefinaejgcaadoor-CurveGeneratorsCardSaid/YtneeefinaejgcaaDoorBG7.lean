/-
  Texts of ours, put together: CrvE, CrvF, CrvG, CrvH, CurveBackL, GenM, GenP, GenR, CurveGeneratorsL.
-/
import Derived.Test.YtneeefinaejgcaaDoorBG6
set_option linter.unusedVariables false
set_option linter.unusedSimpArgs false
section
namespace Go.Proofs.YtneeefinaejgcaaDoor.Cu
open Go.RowKit Go.Proofs.YtneeefinaejgcaaDoor Go.Proofs.YtneeefinaejgcaaDoor.Sy

set_option maxHeartbeats 4000000 in
set_option maxRecDepth 100000 in
theorem liftR_any (w : World) (l : List UInt8) (hl : l.length = 32) : Calls Tryd.prog 22 #[.agg (l.map bv).toArray] w (Gets w (.tuple #[ptv (liftP l), .bool (liftB l)])) := by
  have hv := valB_lt32 l hl
  refine Sy.enter (args := [.agg (l.map bv).toArray]) Tryd.func22 rfl (Nat.le_of_ble_eq_true (by kernel_rfl)) ?_
  refine Sy.seq ?_
  refine Sy.region ?_
  refine Sy.make (by kernel_rfl) 39 (l.map bv).toArray ptr (fun _ => by kernel_rfl) (fun g0 => ?_)
  refine Sy.make (by kernel_rfl) 28 (pcs 0 0 false) ptr (fun _ => by kernel_rfl) (fun g1 => ?_)
  refine Sy.step (by kernel_rfl) (.bool false) (Quiet.pure (fun _ => by kernel_rfl)) ?_
  refine Sy.nil ?_
  refine Sy.then_ ?_
  refine Sy.seq ?_
  refine Sy.region ?_
  refine Sy.step (by kernel_rfl) (.slice none 0 0) (Quiet.pure (fun _ => by kernel_rfl)) ?_
  refine Sy.nil ?_
  refine Sy.then_ ?_
  refine Sy.seq ?_
  refine Sy.seq ?_
  refine Sy.region ?_
  refine Sy.step (by kernel_rfl) (.int .i64 0) (Quiet.pure (fun _ => by kernel_rfl)) ?_
  refine Sy.nil ?_
  refine Sy.then_ ?_
  refine Sy.block ?_
  refine Sy.loopN 33 ?_
  refine Sy.tidyR (G := [(1, .pointer (some ⟨g0, 0, none⟩)), (2, .pointer (some ⟨g1, 0, none⟩)), (4, .slice none 0 0), (5, .int .i64 0)]) (M := [(g0, 39, (l.map bv).toArray), (g1, 28, (pcs 0 0 false))]) [true, true] (by kernel_rfl) (all_cons (by kernel_rfl) (all_cons (by kernel_rfl) (all_cons (by kernel_rfl) (all_cons (by kernel_rfl) all_nil)))) ?_
  refine Sy.round ?_
  refine Sy.seq ?_
  refine Sy.seq ?_
  refine Sy.region ?_
  refine Sy.step (by kernel_rfl) (.int .i64 0) (Quiet.pure (fun _ => by kernel_rfl)) ?_
  refine Sy.step (by kernel_rfl) (.bool true) (Quiet.pure (fun _ => by kernel_rfl)) ?_
  refine Sy.nil ?_
  refine Sy.then_ ?_
  refine Sy.cond_t (by kernel_rfl) (by kernel_rfl) ?_
  refine Sy.skip ?_
  refine Sy.then_ ?_
  refine Sy.seq ?_
  refine Sy.block ?_
  refine Sy.region ?_
  refine Sy.step (by kernel_rfl) (.slice none 0 0) (Quiet.pure (fun _ => by kernel_rfl)) ?_
  refine Sy.step (by kernel_rfl) (.int .i64 0) (Quiet.pure (fun _ => by kernel_rfl)) ?_
  refine Sy.step (by kernel_rfl) (.pointer (some ⟨g0, 0, none⟩)) (Quiet.pure (fun _ => by kernel_rfl)) ?_
  refine Sy.step (by kernel_rfl) (bv (l.getD 0 0)) (Quiet.cell 0 g0 0 39 5 (l.map bv).toArray _ _ rfl (by kernel_rfl) (by kernel_rfl) Tryd.underlying5 rfl _ (key_at l hl 0 (by decide))) ?_
  refine Sy.make (by kernel_rfl) 5 #[bv (l.getD 0 0)] (fun g => .slice (some ⟨g, 0, none⟩) 1 1) (fun _ => by kernel_rfl) (fun g2 => ?_)
  refine Sy.appendNil (by kernel_rfl) 34 5 _ _ Tryd.underlying34 info_u8 rfl rfl rfl rfl _ _ rfl (by kernel_rfl) 2 g2 0 1 1 5 #[bv (l.getD 0 0)] [bv (l.getD 0 0)] (by kernel_rfl) (by kernel_rfl) (by kernel_rfl) rfl (by decide) (by intro u hu; simp only [List.mem_cons, List.not_mem_nil, or_false] at hu; subst hu; rfl) (by decide) (fun q1 c1 s1 e1 m1 => ?_)
  refine Sy.step (by kernel_rfl) (.slice (some ⟨q1, 0, none⟩) 1 c1) (Quiet.pure (fun _ => by kernel_rfl)) ?_
  refine Sy.nil ?_
  refine Sy.in_ ?_
  refine Sy.then_ ?_
  refine Sy.region ?_
  refine Sy.step (by kernel_rfl) (.int .i64 0) (Quiet.pure (fun _ => by kernel_rfl)) ?_
  refine Sy.step (by kernel_rfl) (.int .i64 1) (Quiet.pure (fun _ => by kernel_rfl)) ?_
  refine Sy.step (by kernel_rfl) (.int .i64 1) (Quiet.pure (fun _ => by kernel_rfl)) ?_
  refine Sy.nil ?_
  refine Sy.again ?_
  refine Sy.tidyR (G := [(1, .pointer (some ⟨g0, 0, none⟩)), (2, .pointer (some ⟨g1, 0, none⟩)), (4, .slice (some ⟨q1, 0, none⟩) 1 c1), (5, .int .i64 1)]) (M := [(g0, 39, (l.map bv).toArray), (g1, 28, (pcs 0 0 false)), (q1, 5, ([bv (l.getD 0 0)] ++ s1).toArray)]) [true, true, false, true] (by kernel_rfl) (all_cons (by kernel_rfl) (all_cons (by kernel_rfl) (all_cons (by kernel_rfl) (all_cons (by kernel_rfl) all_nil)))) ?_
  refine Sy.round ?_
  refine Sy.seq ?_
  refine Sy.seq ?_
  refine Sy.region ?_
  refine Sy.step (by kernel_rfl) (.int .i64 1) (Quiet.pure (fun _ => by kernel_rfl)) ?_
  refine Sy.step (by kernel_rfl) (.bool true) (Quiet.pure (fun _ => by kernel_rfl)) ?_
  refine Sy.nil ?_
  refine Sy.then_ ?_
  refine Sy.cond_t (by kernel_rfl) (by kernel_rfl) ?_
  refine Sy.skip ?_
  refine Sy.then_ ?_
  refine Sy.seq ?_
  refine Sy.block ?_
  refine Sy.region ?_
  refine Sy.step (by kernel_rfl) (.slice (some ⟨q1, 0, none⟩) 1 c1) (Quiet.pure (fun _ => by kernel_rfl)) ?_
  refine Sy.step (by kernel_rfl) (.int .i64 1) (Quiet.pure (fun _ => by kernel_rfl)) ?_
  refine Sy.step (by kernel_rfl) (.pointer (some ⟨g0, 1, none⟩)) (Quiet.pure (fun _ => by kernel_rfl)) ?_
  refine Sy.step (by kernel_rfl) (bv (l.getD 1 0)) (Quiet.cell 0 g0 1 39 5 (l.map bv).toArray _ _ rfl (by kernel_rfl) (by kernel_rfl) Tryd.underlying5 rfl _ (key_at l hl 1 (by decide))) ?_
  refine Sy.make (by kernel_rfl) 5 #[bv (l.getD 1 0)] (fun g => .slice (some ⟨g, 0, none⟩) 1 1) (fun _ => by kernel_rfl) (fun g3 => ?_)
  refine Sy.append (by kernel_rfl) 34 5 _ _ Tryd.underlying34 info_u8 rfl rfl rfl rfl _ _ rfl 2 q1 1 c1 ([bv (l.getD 0 0)] ++ s1).toArray [bv (l.getD 0 0)] (by kernel_rfl) (by kernel_rfl) (by kernel_rfl) rfl (by rw [← e1]; simp only [List.size_toArray, List.length_append, List.length_cons, List.length_nil]; omega) m1 3 g3 0 1 1 5 #[bv (l.getD 1 0)] [bv (l.getD 1 0)] (by kernel_rfl) (by kernel_rfl) (by kernel_rfl) rfl (by intro u hu; simp only [List.mem_cons, List.not_mem_nil, or_false] at hu; subst hu; rfl) (by decide) (fun q2 c2 s2 e2 m2 => ?_)
  refine Sy.step (by kernel_rfl) (.slice (some ⟨q2, 0, none⟩) 2 c2) (Quiet.pure (fun _ => by kernel_rfl)) ?_
  refine Sy.nil ?_
  refine Sy.in_ ?_
  refine Sy.then_ ?_
  refine Sy.region ?_
  refine Sy.step (by kernel_rfl) (.int .i64 1) (Quiet.pure (fun _ => by kernel_rfl)) ?_
  refine Sy.step (by kernel_rfl) (.int .i64 2) (Quiet.pure (fun _ => by kernel_rfl)) ?_
  refine Sy.step (by kernel_rfl) (.int .i64 2) (Quiet.pure (fun _ => by kernel_rfl)) ?_
  refine Sy.nil ?_
  refine Sy.again ?_
  refine Sy.tidyR (G := [(1, .pointer (some ⟨g0, 0, none⟩)), (2, .pointer (some ⟨g1, 0, none⟩)), (4, .slice (some ⟨q2, 0, none⟩) 2 c2), (5, .int .i64 2)]) (M := [(g0, 39, (l.map bv).toArray), (g1, 28, (pcs 0 0 false)), (q2, 5, ([bv (l.getD 0 0), bv (l.getD 1 0)] ++ s2).toArray)]) [true, true, true, false] (by kernel_rfl) (all_cons (by kernel_rfl) (all_cons (by kernel_rfl) (all_cons (by kernel_rfl) (all_cons (by kernel_rfl) all_nil)))) ?_
  refine Sy.round ?_
  refine Sy.seq ?_
  refine Sy.seq ?_
  refine Sy.region ?_
  refine Sy.step (by kernel_rfl) (.int .i64 2) (Quiet.pure (fun _ => by kernel_rfl)) ?_
  refine Sy.step (by kernel_rfl) (.bool true) (Quiet.pure (fun _ => by kernel_rfl)) ?_
  refine Sy.nil ?_
  refine Sy.then_ ?_
  refine Sy.cond_t (by kernel_rfl) (by kernel_rfl) ?_
  refine Sy.skip ?_
  refine Sy.then_ ?_
  refine Sy.seq ?_
  refine Sy.block ?_
  refine Sy.region ?_
  refine Sy.step (by kernel_rfl) (.slice (some ⟨q2, 0, none⟩) 2 c2) (Quiet.pure (fun _ => by kernel_rfl)) ?_
  refine Sy.step (by kernel_rfl) (.int .i64 2) (Quiet.pure (fun _ => by kernel_rfl)) ?_
  refine Sy.step (by kernel_rfl) (.pointer (some ⟨g0, 2, none⟩)) (Quiet.pure (fun _ => by kernel_rfl)) ?_
  refine Sy.step (by kernel_rfl) (bv (l.getD 2 0)) (Quiet.cell 0 g0 2 39 5 (l.map bv).toArray _ _ rfl (by kernel_rfl) (by kernel_rfl) Tryd.underlying5 rfl _ (key_at l hl 2 (by decide))) ?_
  refine Sy.make (by kernel_rfl) 5 #[bv (l.getD 2 0)] (fun g => .slice (some ⟨g, 0, none⟩) 1 1) (fun _ => by kernel_rfl) (fun g4 => ?_)
  refine Sy.append (by kernel_rfl) 34 5 _ _ Tryd.underlying34 info_u8 rfl rfl rfl rfl _ _ rfl 2 q2 2 c2 ([bv (l.getD 0 0), bv (l.getD 1 0)] ++ s2).toArray [bv (l.getD 0 0), bv (l.getD 1 0)] (by kernel_rfl) (by kernel_rfl) (by kernel_rfl) rfl (by rw [← e2]; simp only [List.size_toArray, List.length_append, List.length_cons, List.length_nil]; omega) m2 3 g4 0 1 1 5 #[bv (l.getD 2 0)] [bv (l.getD 2 0)] (by kernel_rfl) (by kernel_rfl) (by kernel_rfl) rfl (by intro u hu; simp only [List.mem_cons, List.not_mem_nil, or_false] at hu; subst hu; rfl) (by decide) (fun q3 c3 s3 e3 m3 => ?_)
  refine Sy.step (by kernel_rfl) (.slice (some ⟨q3, 0, none⟩) 3 c3) (Quiet.pure (fun _ => by kernel_rfl)) ?_
  refine Sy.nil ?_
  refine Sy.in_ ?_
  refine Sy.then_ ?_
  refine Sy.region ?_
  refine Sy.step (by kernel_rfl) (.int .i64 2) (Quiet.pure (fun _ => by kernel_rfl)) ?_
  refine Sy.step (by kernel_rfl) (.int .i64 3) (Quiet.pure (fun _ => by kernel_rfl)) ?_
  refine Sy.step (by kernel_rfl) (.int .i64 3) (Quiet.pure (fun _ => by kernel_rfl)) ?_
  refine Sy.nil ?_
  refine Sy.again ?_
  refine Sy.tidyR (G := [(1, .pointer (some ⟨g0, 0, none⟩)), (2, .pointer (some ⟨g1, 0, none⟩)), (4, .slice (some ⟨q3, 0, none⟩) 3 c3), (5, .int .i64 3)]) (M := [(g0, 39, (l.map bv).toArray), (g1, 28, (pcs 0 0 false)), (q3, 5, ([bv (l.getD 0 0), bv (l.getD 1 0), bv (l.getD 2 0)] ++ s3).toArray)]) [true, true, true, false] (by kernel_rfl) (all_cons (by kernel_rfl) (all_cons (by kernel_rfl) (all_cons (by kernel_rfl) (all_cons (by kernel_rfl) all_nil)))) ?_
  refine Sy.round ?_
  refine Sy.seq ?_
  refine Sy.seq ?_
  refine Sy.region ?_
  refine Sy.step (by kernel_rfl) (.int .i64 3) (Quiet.pure (fun _ => by kernel_rfl)) ?_
  refine Sy.step (by kernel_rfl) (.bool true) (Quiet.pure (fun _ => by kernel_rfl)) ?_
  refine Sy.nil ?_
  refine Sy.then_ ?_
  refine Sy.cond_t (by kernel_rfl) (by kernel_rfl) ?_
  refine Sy.skip ?_
  refine Sy.then_ ?_
  refine Sy.seq ?_
  refine Sy.block ?_
  refine Sy.region ?_
  refine Sy.step (by kernel_rfl) (.slice (some ⟨q3, 0, none⟩) 3 c3) (Quiet.pure (fun _ => by kernel_rfl)) ?_
  refine Sy.step (by kernel_rfl) (.int .i64 3) (Quiet.pure (fun _ => by kernel_rfl)) ?_
  refine Sy.step (by kernel_rfl) (.pointer (some ⟨g0, 3, none⟩)) (Quiet.pure (fun _ => by kernel_rfl)) ?_
  refine Sy.step (by kernel_rfl) (bv (l.getD 3 0)) (Quiet.cell 0 g0 3 39 5 (l.map bv).toArray _ _ rfl (by kernel_rfl) (by kernel_rfl) Tryd.underlying5 rfl _ (key_at l hl 3 (by decide))) ?_
  refine Sy.make (by kernel_rfl) 5 #[bv (l.getD 3 0)] (fun g => .slice (some ⟨g, 0, none⟩) 1 1) (fun _ => by kernel_rfl) (fun g5 => ?_)
  refine Sy.append (by kernel_rfl) 34 5 _ _ Tryd.underlying34 info_u8 rfl rfl rfl rfl _ _ rfl 2 q3 3 c3 ([bv (l.getD 0 0), bv (l.getD 1 0), bv (l.getD 2 0)] ++ s3).toArray [bv (l.getD 0 0), bv (l.getD 1 0), bv (l.getD 2 0)] (by kernel_rfl) (by kernel_rfl) (by kernel_rfl) rfl (by rw [← e3]; simp only [List.size_toArray, List.length_append, List.length_cons, List.length_nil]; omega) m3 3 g5 0 1 1 5 #[bv (l.getD 3 0)] [bv (l.getD 3 0)] (by kernel_rfl) (by kernel_rfl) (by kernel_rfl) rfl (by intro u hu; simp only [List.mem_cons, List.not_mem_nil, or_false] at hu; subst hu; rfl) (by decide) (fun q4 c4 s4 e4 m4 => ?_)
  refine Sy.step (by kernel_rfl) (.slice (some ⟨q4, 0, none⟩) 4 c4) (Quiet.pure (fun _ => by kernel_rfl)) ?_
  refine Sy.nil ?_
  refine Sy.in_ ?_
  refine Sy.then_ ?_
  refine Sy.region ?_
  refine Sy.step (by kernel_rfl) (.int .i64 3) (Quiet.pure (fun _ => by kernel_rfl)) ?_
  refine Sy.step (by kernel_rfl) (.int .i64 4) (Quiet.pure (fun _ => by kernel_rfl)) ?_
  refine Sy.step (by kernel_rfl) (.int .i64 4) (Quiet.pure (fun _ => by kernel_rfl)) ?_
  refine Sy.nil ?_
  refine Sy.again ?_
  refine Sy.tidyR (G := [(1, .pointer (some ⟨g0, 0, none⟩)), (2, .pointer (some ⟨g1, 0, none⟩)), (4, .slice (some ⟨q4, 0, none⟩) 4 c4), (5, .int .i64 4)]) (M := [(g0, 39, (l.map bv).toArray), (g1, 28, (pcs 0 0 false)), (q4, 5, ([bv (l.getD 0 0), bv (l.getD 1 0), bv (l.getD 2 0), bv (l.getD 3 0)] ++ s4).toArray)]) [true, true, true, false] (by kernel_rfl) (all_cons (by kernel_rfl) (all_cons (by kernel_rfl) (all_cons (by kernel_rfl) (all_cons (by kernel_rfl) all_nil)))) ?_
  refine Sy.round ?_
  refine Sy.seq ?_
  refine Sy.seq ?_
  refine Sy.region ?_
  refine Sy.step (by kernel_rfl) (.int .i64 4) (Quiet.pure (fun _ => by kernel_rfl)) ?_
  refine Sy.step (by kernel_rfl) (.bool true) (Quiet.pure (fun _ => by kernel_rfl)) ?_
  refine Sy.nil ?_
  refine Sy.then_ ?_
  refine Sy.cond_t (by kernel_rfl) (by kernel_rfl) ?_
  refine Sy.skip ?_
  refine Sy.then_ ?_
  refine Sy.seq ?_
  refine Sy.block ?_
  refine Sy.region ?_
  refine Sy.step (by kernel_rfl) (.slice (some ⟨q4, 0, none⟩) 4 c4) (Quiet.pure (fun _ => by kernel_rfl)) ?_
  refine Sy.step (by kernel_rfl) (.int .i64 4) (Quiet.pure (fun _ => by kernel_rfl)) ?_
  refine Sy.step (by kernel_rfl) (.pointer (some ⟨g0, 4, none⟩)) (Quiet.pure (fun _ => by kernel_rfl)) ?_
  refine Sy.step (by kernel_rfl) (bv (l.getD 4 0)) (Quiet.cell 0 g0 4 39 5 (l.map bv).toArray _ _ rfl (by kernel_rfl) (by kernel_rfl) Tryd.underlying5 rfl _ (key_at l hl 4 (by decide))) ?_
  refine Sy.make (by kernel_rfl) 5 #[bv (l.getD 4 0)] (fun g => .slice (some ⟨g, 0, none⟩) 1 1) (fun _ => by kernel_rfl) (fun g6 => ?_)
  refine Sy.append (by kernel_rfl) 34 5 _ _ Tryd.underlying34 info_u8 rfl rfl rfl rfl _ _ rfl 2 q4 4 c4 ([bv (l.getD 0 0), bv (l.getD 1 0), bv (l.getD 2 0), bv (l.getD 3 0)] ++ s4).toArray [bv (l.getD 0 0), bv (l.getD 1 0), bv (l.getD 2 0), bv (l.getD 3 0)] (by kernel_rfl) (by kernel_rfl) (by kernel_rfl) rfl (by rw [← e4]; simp only [List.size_toArray, List.length_append, List.length_cons, List.length_nil]; omega) m4 3 g6 0 1 1 5 #[bv (l.getD 4 0)] [bv (l.getD 4 0)] (by kernel_rfl) (by kernel_rfl) (by kernel_rfl) rfl (by intro u hu; simp only [List.mem_cons, List.not_mem_nil, or_false] at hu; subst hu; rfl) (by decide) (fun q5 c5 s5 e5 m5 => ?_)
  refine Sy.step (by kernel_rfl) (.slice (some ⟨q5, 0, none⟩) 5 c5) (Quiet.pure (fun _ => by kernel_rfl)) ?_
  refine Sy.nil ?_
  refine Sy.in_ ?_
  refine Sy.then_ ?_
  refine Sy.region ?_
  refine Sy.step (by kernel_rfl) (.int .i64 4) (Quiet.pure (fun _ => by kernel_rfl)) ?_
  refine Sy.step (by kernel_rfl) (.int .i64 5) (Quiet.pure (fun _ => by kernel_rfl)) ?_
  refine Sy.step (by kernel_rfl) (.int .i64 5) (Quiet.pure (fun _ => by kernel_rfl)) ?_
  refine Sy.nil ?_
  refine Sy.again ?_
  refine Sy.tidyR (G := [(1, .pointer (some ⟨g0, 0, none⟩)), (2, .pointer (some ⟨g1, 0, none⟩)), (4, .slice (some ⟨q5, 0, none⟩) 5 c5), (5, .int .i64 5)]) (M := [(g0, 39, (l.map bv).toArray), (g1, 28, (pcs 0 0 false)), (q5, 5, ([bv (l.getD 0 0), bv (l.getD 1 0), bv (l.getD 2 0), bv (l.getD 3 0), bv (l.getD 4 0)] ++ s5).toArray)]) [true, true, true, false] (by kernel_rfl) (all_cons (by kernel_rfl) (all_cons (by kernel_rfl) (all_cons (by kernel_rfl) (all_cons (by kernel_rfl) all_nil)))) ?_
  refine Sy.round ?_
  refine Sy.seq ?_
  refine Sy.seq ?_
  refine Sy.region ?_
  refine Sy.step (by kernel_rfl) (.int .i64 5) (Quiet.pure (fun _ => by kernel_rfl)) ?_
  refine Sy.step (by kernel_rfl) (.bool true) (Quiet.pure (fun _ => by kernel_rfl)) ?_
  refine Sy.nil ?_
  refine Sy.then_ ?_
  refine Sy.cond_t (by kernel_rfl) (by kernel_rfl) ?_
  refine Sy.skip ?_
  refine Sy.then_ ?_
  refine Sy.seq ?_
  refine Sy.block ?_
  refine Sy.region ?_
  refine Sy.step (by kernel_rfl) (.slice (some ⟨q5, 0, none⟩) 5 c5) (Quiet.pure (fun _ => by kernel_rfl)) ?_
  refine Sy.step (by kernel_rfl) (.int .i64 5) (Quiet.pure (fun _ => by kernel_rfl)) ?_
  refine Sy.step (by kernel_rfl) (.pointer (some ⟨g0, 5, none⟩)) (Quiet.pure (fun _ => by kernel_rfl)) ?_
  refine Sy.step (by kernel_rfl) (bv (l.getD 5 0)) (Quiet.cell 0 g0 5 39 5 (l.map bv).toArray _ _ rfl (by kernel_rfl) (by kernel_rfl) Tryd.underlying5 rfl _ (key_at l hl 5 (by decide))) ?_
  refine Sy.make (by kernel_rfl) 5 #[bv (l.getD 5 0)] (fun g => .slice (some ⟨g, 0, none⟩) 1 1) (fun _ => by kernel_rfl) (fun g7 => ?_)
  refine Sy.append (by kernel_rfl) 34 5 _ _ Tryd.underlying34 info_u8 rfl rfl rfl rfl _ _ rfl 2 q5 5 c5 ([bv (l.getD 0 0), bv (l.getD 1 0), bv (l.getD 2 0), bv (l.getD 3 0), bv (l.getD 4 0)] ++ s5).toArray [bv (l.getD 0 0), bv (l.getD 1 0), bv (l.getD 2 0), bv (l.getD 3 0), bv (l.getD 4 0)] (by kernel_rfl) (by kernel_rfl) (by kernel_rfl) rfl (by rw [← e5]; simp only [List.size_toArray, List.length_append, List.length_cons, List.length_nil]; omega) m5 3 g7 0 1 1 5 #[bv (l.getD 5 0)] [bv (l.getD 5 0)] (by kernel_rfl) (by kernel_rfl) (by kernel_rfl) rfl (by intro u hu; simp only [List.mem_cons, List.not_mem_nil, or_false] at hu; subst hu; rfl) (by decide) (fun q6 c6 s6 e6 m6 => ?_)
  refine Sy.step (by kernel_rfl) (.slice (some ⟨q6, 0, none⟩) 6 c6) (Quiet.pure (fun _ => by kernel_rfl)) ?_
  refine Sy.nil ?_
  refine Sy.in_ ?_
  refine Sy.then_ ?_
  refine Sy.region ?_
  refine Sy.step (by kernel_rfl) (.int .i64 5) (Quiet.pure (fun _ => by kernel_rfl)) ?_
  refine Sy.step (by kernel_rfl) (.int .i64 6) (Quiet.pure (fun _ => by kernel_rfl)) ?_
  refine Sy.step (by kernel_rfl) (.int .i64 6) (Quiet.pure (fun _ => by kernel_rfl)) ?_
  refine Sy.nil ?_
  refine Sy.again ?_
  refine Sy.tidyR (G := [(1, .pointer (some ⟨g0, 0, none⟩)), (2, .pointer (some ⟨g1, 0, none⟩)), (4, .slice (some ⟨q6, 0, none⟩) 6 c6), (5, .int .i64 6)]) (M := [(g0, 39, (l.map bv).toArray), (g1, 28, (pcs 0 0 false)), (q6, 5, ([bv (l.getD 0 0), bv (l.getD 1 0), bv (l.getD 2 0), bv (l.getD 3 0), bv (l.getD 4 0), bv (l.getD 5 0)] ++ s6).toArray)]) [true, true, true, false] (by kernel_rfl) (all_cons (by kernel_rfl) (all_cons (by kernel_rfl) (all_cons (by kernel_rfl) (all_cons (by kernel_rfl) all_nil)))) ?_
  refine Sy.round ?_
  refine Sy.seq ?_
  refine Sy.seq ?_
  refine Sy.region ?_
  refine Sy.step (by kernel_rfl) (.int .i64 6) (Quiet.pure (fun _ => by kernel_rfl)) ?_
  refine Sy.step (by kernel_rfl) (.bool true) (Quiet.pure (fun _ => by kernel_rfl)) ?_
  refine Sy.nil ?_
  refine Sy.then_ ?_
  refine Sy.cond_t (by kernel_rfl) (by kernel_rfl) ?_
  refine Sy.skip ?_
  refine Sy.then_ ?_
  refine Sy.seq ?_
  refine Sy.block ?_
  refine Sy.region ?_
  refine Sy.step (by kernel_rfl) (.slice (some ⟨q6, 0, none⟩) 6 c6) (Quiet.pure (fun _ => by kernel_rfl)) ?_
  refine Sy.step (by kernel_rfl) (.int .i64 6) (Quiet.pure (fun _ => by kernel_rfl)) ?_
  refine Sy.step (by kernel_rfl) (.pointer (some ⟨g0, 6, none⟩)) (Quiet.pure (fun _ => by kernel_rfl)) ?_
  refine Sy.step (by kernel_rfl) (bv (l.getD 6 0)) (Quiet.cell 0 g0 6 39 5 (l.map bv).toArray _ _ rfl (by kernel_rfl) (by kernel_rfl) Tryd.underlying5 rfl _ (key_at l hl 6 (by decide))) ?_
  refine Sy.make (by kernel_rfl) 5 #[bv (l.getD 6 0)] (fun g => .slice (some ⟨g, 0, none⟩) 1 1) (fun _ => by kernel_rfl) (fun g8 => ?_)
  refine Sy.append (by kernel_rfl) 34 5 _ _ Tryd.underlying34 info_u8 rfl rfl rfl rfl _ _ rfl 2 q6 6 c6 ([bv (l.getD 0 0), bv (l.getD 1 0), bv (l.getD 2 0), bv (l.getD 3 0), bv (l.getD 4 0), bv (l.getD 5 0)] ++ s6).toArray [bv (l.getD 0 0), bv (l.getD 1 0), bv (l.getD 2 0), bv (l.getD 3 0), bv (l.getD 4 0), bv (l.getD 5 0)] (by kernel_rfl) (by kernel_rfl) (by kernel_rfl) rfl (by rw [← e6]; simp only [List.size_toArray, List.length_append, List.length_cons, List.length_nil]; omega) m6 3 g8 0 1 1 5 #[bv (l.getD 6 0)] [bv (l.getD 6 0)] (by kernel_rfl) (by kernel_rfl) (by kernel_rfl) rfl (by intro u hu; simp only [List.mem_cons, List.not_mem_nil, or_false] at hu; subst hu; rfl) (by decide) (fun q7 c7 s7 e7 m7 => ?_)
  refine Sy.step (by kernel_rfl) (.slice (some ⟨q7, 0, none⟩) 7 c7) (Quiet.pure (fun _ => by kernel_rfl)) ?_
  refine Sy.nil ?_
  refine Sy.in_ ?_
  refine Sy.then_ ?_
  refine Sy.region ?_
  refine Sy.step (by kernel_rfl) (.int .i64 6) (Quiet.pure (fun _ => by kernel_rfl)) ?_
  refine Sy.step (by kernel_rfl) (.int .i64 7) (Quiet.pure (fun _ => by kernel_rfl)) ?_
  refine Sy.step (by kernel_rfl) (.int .i64 7) (Quiet.pure (fun _ => by kernel_rfl)) ?_
  refine Sy.nil ?_
  refine Sy.again ?_
  refine Sy.tidyR (G := [(1, .pointer (some ⟨g0, 0, none⟩)), (2, .pointer (some ⟨g1, 0, none⟩)), (4, .slice (some ⟨q7, 0, none⟩) 7 c7), (5, .int .i64 7)]) (M := [(g0, 39, (l.map bv).toArray), (g1, 28, (pcs 0 0 false)), (q7, 5, ([bv (l.getD 0 0), bv (l.getD 1 0), bv (l.getD 2 0), bv (l.getD 3 0), bv (l.getD 4 0), bv (l.getD 5 0), bv (l.getD 6 0)] ++ s7).toArray)]) [true, true, true, false] (by kernel_rfl) (all_cons (by kernel_rfl) (all_cons (by kernel_rfl) (all_cons (by kernel_rfl) (all_cons (by kernel_rfl) all_nil)))) ?_
  refine Sy.round ?_
  refine Sy.seq ?_
  refine Sy.seq ?_
  refine Sy.region ?_
  refine Sy.step (by kernel_rfl) (.int .i64 7) (Quiet.pure (fun _ => by kernel_rfl)) ?_
  refine Sy.step (by kernel_rfl) (.bool true) (Quiet.pure (fun _ => by kernel_rfl)) ?_
  refine Sy.nil ?_
  refine Sy.then_ ?_
  refine Sy.cond_t (by kernel_rfl) (by kernel_rfl) ?_
  refine Sy.skip ?_
  refine Sy.then_ ?_
  refine Sy.seq ?_
  refine Sy.block ?_
  refine Sy.region ?_
  refine Sy.step (by kernel_rfl) (.slice (some ⟨q7, 0, none⟩) 7 c7) (Quiet.pure (fun _ => by kernel_rfl)) ?_
  refine Sy.step (by kernel_rfl) (.int .i64 7) (Quiet.pure (fun _ => by kernel_rfl)) ?_
  refine Sy.step (by kernel_rfl) (.pointer (some ⟨g0, 7, none⟩)) (Quiet.pure (fun _ => by kernel_rfl)) ?_
  refine Sy.step (by kernel_rfl) (bv (l.getD 7 0)) (Quiet.cell 0 g0 7 39 5 (l.map bv).toArray _ _ rfl (by kernel_rfl) (by kernel_rfl) Tryd.underlying5 rfl _ (key_at l hl 7 (by decide))) ?_
  refine Sy.make (by kernel_rfl) 5 #[bv (l.getD 7 0)] (fun g => .slice (some ⟨g, 0, none⟩) 1 1) (fun _ => by kernel_rfl) (fun g9 => ?_)
  refine Sy.append (by kernel_rfl) 34 5 _ _ Tryd.underlying34 info_u8 rfl rfl rfl rfl _ _ rfl 2 q7 7 c7 ([bv (l.getD 0 0), bv (l.getD 1 0), bv (l.getD 2 0), bv (l.getD 3 0), bv (l.getD 4 0), bv (l.getD 5 0), bv (l.getD 6 0)] ++ s7).toArray [bv (l.getD 0 0), bv (l.getD 1 0), bv (l.getD 2 0), bv (l.getD 3 0), bv (l.getD 4 0), bv (l.getD 5 0), bv (l.getD 6 0)] (by kernel_rfl) (by kernel_rfl) (by kernel_rfl) rfl (by rw [← e7]; simp only [List.size_toArray, List.length_append, List.length_cons, List.length_nil]; omega) m7 3 g9 0 1 1 5 #[bv (l.getD 7 0)] [bv (l.getD 7 0)] (by kernel_rfl) (by kernel_rfl) (by kernel_rfl) rfl (by intro u hu; simp only [List.mem_cons, List.not_mem_nil, or_false] at hu; subst hu; rfl) (by decide) (fun q8 c8 s8 e8 m8 => ?_)
  refine Sy.step (by kernel_rfl) (.slice (some ⟨q8, 0, none⟩) 8 c8) (Quiet.pure (fun _ => by kernel_rfl)) ?_
  refine Sy.nil ?_
  refine Sy.in_ ?_
  refine Sy.then_ ?_
  refine Sy.region ?_
  refine Sy.step (by kernel_rfl) (.int .i64 7) (Quiet.pure (fun _ => by kernel_rfl)) ?_
  refine Sy.step (by kernel_rfl) (.int .i64 8) (Quiet.pure (fun _ => by kernel_rfl)) ?_
  refine Sy.step (by kernel_rfl) (.int .i64 8) (Quiet.pure (fun _ => by kernel_rfl)) ?_
  refine Sy.nil ?_
  refine Sy.again ?_
  refine Sy.tidyR (G := [(1, .pointer (some ⟨g0, 0, none⟩)), (2, .pointer (some ⟨g1, 0, none⟩)), (4, .slice (some ⟨q8, 0, none⟩) 8 c8), (5, .int .i64 8)]) (M := [(g0, 39, (l.map bv).toArray), (g1, 28, (pcs 0 0 false)), (q8, 5, ([bv (l.getD 0 0), bv (l.getD 1 0), bv (l.getD 2 0), bv (l.getD 3 0), bv (l.getD 4 0), bv (l.getD 5 0), bv (l.getD 6 0), bv (l.getD 7 0)] ++ s8).toArray)]) [true, true, true, false] (by kernel_rfl) (all_cons (by kernel_rfl) (all_cons (by kernel_rfl) (all_cons (by kernel_rfl) (all_cons (by kernel_rfl) all_nil)))) ?_
  refine Sy.round ?_
  refine Sy.seq ?_
  refine Sy.seq ?_
  refine Sy.region ?_
  refine Sy.step (by kernel_rfl) (.int .i64 8) (Quiet.pure (fun _ => by kernel_rfl)) ?_
  refine Sy.step (by kernel_rfl) (.bool true) (Quiet.pure (fun _ => by kernel_rfl)) ?_
  refine Sy.nil ?_
  refine Sy.then_ ?_
  refine Sy.cond_t (by kernel_rfl) (by kernel_rfl) ?_
  refine Sy.skip ?_
  refine Sy.then_ ?_
  refine Sy.seq ?_
  refine Sy.block ?_
  refine Sy.region ?_
  refine Sy.step (by kernel_rfl) (.slice (some ⟨q8, 0, none⟩) 8 c8) (Quiet.pure (fun _ => by kernel_rfl)) ?_
  refine Sy.step (by kernel_rfl) (.int .i64 8) (Quiet.pure (fun _ => by kernel_rfl)) ?_
  refine Sy.step (by kernel_rfl) (.pointer (some ⟨g0, 8, none⟩)) (Quiet.pure (fun _ => by kernel_rfl)) ?_
  refine Sy.step (by kernel_rfl) (bv (l.getD 8 0)) (Quiet.cell 0 g0 8 39 5 (l.map bv).toArray _ _ rfl (by kernel_rfl) (by kernel_rfl) Tryd.underlying5 rfl _ (key_at l hl 8 (by decide))) ?_
  refine Sy.make (by kernel_rfl) 5 #[bv (l.getD 8 0)] (fun g => .slice (some ⟨g, 0, none⟩) 1 1) (fun _ => by kernel_rfl) (fun g10 => ?_)
  refine Sy.append (by kernel_rfl) 34 5 _ _ Tryd.underlying34 info_u8 rfl rfl rfl rfl _ _ rfl 2 q8 8 c8 ([bv (l.getD 0 0), bv (l.getD 1 0), bv (l.getD 2 0), bv (l.getD 3 0), bv (l.getD 4 0), bv (l.getD 5 0), bv (l.getD 6 0), bv (l.getD 7 0)] ++ s8).toArray [bv (l.getD 0 0), bv (l.getD 1 0), bv (l.getD 2 0), bv (l.getD 3 0), bv (l.getD 4 0), bv (l.getD 5 0), bv (l.getD 6 0), bv (l.getD 7 0)] (by kernel_rfl) (by kernel_rfl) (by kernel_rfl) rfl (by rw [← e8]; simp only [List.size_toArray, List.length_append, List.length_cons, List.length_nil]; omega) m8 3 g10 0 1 1 5 #[bv (l.getD 8 0)] [bv (l.getD 8 0)] (by kernel_rfl) (by kernel_rfl) (by kernel_rfl) rfl (by intro u hu; simp only [List.mem_cons, List.not_mem_nil, or_false] at hu; subst hu; rfl) (by decide) (fun q9 c9 s9 e9 m9 => ?_)
  refine Sy.step (by kernel_rfl) (.slice (some ⟨q9, 0, none⟩) 9 c9) (Quiet.pure (fun _ => by kernel_rfl)) ?_
  refine Sy.nil ?_
  refine Sy.in_ ?_
  refine Sy.then_ ?_
  refine Sy.region ?_
  refine Sy.step (by kernel_rfl) (.int .i64 8) (Quiet.pure (fun _ => by kernel_rfl)) ?_
  refine Sy.step (by kernel_rfl) (.int .i64 9) (Quiet.pure (fun _ => by kernel_rfl)) ?_
  refine Sy.step (by kernel_rfl) (.int .i64 9) (Quiet.pure (fun _ => by kernel_rfl)) ?_
  refine Sy.nil ?_
  refine Sy.again ?_
  refine Sy.tidyR (G := [(1, .pointer (some ⟨g0, 0, none⟩)), (2, .pointer (some ⟨g1, 0, none⟩)), (4, .slice (some ⟨q9, 0, none⟩) 9 c9), (5, .int .i64 9)]) (M := [(g0, 39, (l.map bv).toArray), (g1, 28, (pcs 0 0 false)), (q9, 5, ([bv (l.getD 0 0), bv (l.getD 1 0), bv (l.getD 2 0), bv (l.getD 3 0), bv (l.getD 4 0), bv (l.getD 5 0), bv (l.getD 6 0), bv (l.getD 7 0), bv (l.getD 8 0)] ++ s9).toArray)]) [true, true, true, false] (by kernel_rfl) (all_cons (by kernel_rfl) (all_cons (by kernel_rfl) (all_cons (by kernel_rfl) (all_cons (by kernel_rfl) all_nil)))) ?_
  refine Sy.round ?_
  refine Sy.seq ?_
  refine Sy.seq ?_
  refine Sy.region ?_
  refine Sy.step (by kernel_rfl) (.int .i64 9) (Quiet.pure (fun _ => by kernel_rfl)) ?_
  refine Sy.step (by kernel_rfl) (.bool true) (Quiet.pure (fun _ => by kernel_rfl)) ?_
  refine Sy.nil ?_
  refine Sy.then_ ?_
  refine Sy.cond_t (by kernel_rfl) (by kernel_rfl) ?_
  refine Sy.skip ?_
  refine Sy.then_ ?_
  refine Sy.seq ?_
  refine Sy.block ?_
  refine Sy.region ?_
  refine Sy.step (by kernel_rfl) (.slice (some ⟨q9, 0, none⟩) 9 c9) (Quiet.pure (fun _ => by kernel_rfl)) ?_
  refine Sy.step (by kernel_rfl) (.int .i64 9) (Quiet.pure (fun _ => by kernel_rfl)) ?_
  refine Sy.step (by kernel_rfl) (.pointer (some ⟨g0, 9, none⟩)) (Quiet.pure (fun _ => by kernel_rfl)) ?_
  refine Sy.step (by kernel_rfl) (bv (l.getD 9 0)) (Quiet.cell 0 g0 9 39 5 (l.map bv).toArray _ _ rfl (by kernel_rfl) (by kernel_rfl) Tryd.underlying5 rfl _ (key_at l hl 9 (by decide))) ?_
  refine Sy.make (by kernel_rfl) 5 #[bv (l.getD 9 0)] (fun g => .slice (some ⟨g, 0, none⟩) 1 1) (fun _ => by kernel_rfl) (fun g11 => ?_)
  refine Sy.append (by kernel_rfl) 34 5 _ _ Tryd.underlying34 info_u8 rfl rfl rfl rfl _ _ rfl 2 q9 9 c9 ([bv (l.getD 0 0), bv (l.getD 1 0), bv (l.getD 2 0), bv (l.getD 3 0), bv (l.getD 4 0), bv (l.getD 5 0), bv (l.getD 6 0), bv (l.getD 7 0), bv (l.getD 8 0)] ++ s9).toArray [bv (l.getD 0 0), bv (l.getD 1 0), bv (l.getD 2 0), bv (l.getD 3 0), bv (l.getD 4 0), bv (l.getD 5 0), bv (l.getD 6 0), bv (l.getD 7 0), bv (l.getD 8 0)] (by kernel_rfl) (by kernel_rfl) (by kernel_rfl) rfl (by rw [← e9]; simp only [List.size_toArray, List.length_append, List.length_cons, List.length_nil]; omega) m9 3 g11 0 1 1 5 #[bv (l.getD 9 0)] [bv (l.getD 9 0)] (by kernel_rfl) (by kernel_rfl) (by kernel_rfl) rfl (by intro u hu; simp only [List.mem_cons, List.not_mem_nil, or_false] at hu; subst hu; rfl) (by decide) (fun q10 c10 s10 e10 m10 => ?_)
  refine Sy.step (by kernel_rfl) (.slice (some ⟨q10, 0, none⟩) 10 c10) (Quiet.pure (fun _ => by kernel_rfl)) ?_
  refine Sy.nil ?_
  refine Sy.in_ ?_
  refine Sy.then_ ?_
  refine Sy.region ?_
  refine Sy.step (by kernel_rfl) (.int .i64 9) (Quiet.pure (fun _ => by kernel_rfl)) ?_
  refine Sy.step (by kernel_rfl) (.int .i64 10) (Quiet.pure (fun _ => by kernel_rfl)) ?_
  refine Sy.step (by kernel_rfl) (.int .i64 10) (Quiet.pure (fun _ => by kernel_rfl)) ?_
  refine Sy.nil ?_
  refine Sy.again ?_
  refine Sy.tidyR (G := [(1, .pointer (some ⟨g0, 0, none⟩)), (2, .pointer (some ⟨g1, 0, none⟩)), (4, .slice (some ⟨q10, 0, none⟩) 10 c10), (5, .int .i64 10)]) (M := [(g0, 39, (l.map bv).toArray), (g1, 28, (pcs 0 0 false)), (q10, 5, ([bv (l.getD 0 0), bv (l.getD 1 0), bv (l.getD 2 0), bv (l.getD 3 0), bv (l.getD 4 0), bv (l.getD 5 0), bv (l.getD 6 0), bv (l.getD 7 0), bv (l.getD 8 0), bv (l.getD 9 0)] ++ s10).toArray)]) [true, true, true, false] (by kernel_rfl) (all_cons (by kernel_rfl) (all_cons (by kernel_rfl) (all_cons (by kernel_rfl) (all_cons (by kernel_rfl) all_nil)))) ?_
  refine Sy.round ?_
  refine Sy.seq ?_
  refine Sy.seq ?_
  refine Sy.region ?_
  refine Sy.step (by kernel_rfl) (.int .i64 10) (Quiet.pure (fun _ => by kernel_rfl)) ?_
  refine Sy.step (by kernel_rfl) (.bool true) (Quiet.pure (fun _ => by kernel_rfl)) ?_
  refine Sy.nil ?_
  refine Sy.then_ ?_
  refine Sy.cond_t (by kernel_rfl) (by kernel_rfl) ?_
  refine Sy.skip ?_
  refine Sy.then_ ?_
  refine Sy.seq ?_
  refine Sy.block ?_
  refine Sy.region ?_
  refine Sy.step (by kernel_rfl) (.slice (some ⟨q10, 0, none⟩) 10 c10) (Quiet.pure (fun _ => by kernel_rfl)) ?_
  refine Sy.step (by kernel_rfl) (.int .i64 10) (Quiet.pure (fun _ => by kernel_rfl)) ?_
  refine Sy.step (by kernel_rfl) (.pointer (some ⟨g0, 10, none⟩)) (Quiet.pure (fun _ => by kernel_rfl)) ?_
  refine Sy.step (by kernel_rfl) (bv (l.getD 10 0)) (Quiet.cell 0 g0 10 39 5 (l.map bv).toArray _ _ rfl (by kernel_rfl) (by kernel_rfl) Tryd.underlying5 rfl _ (key_at l hl 10 (by decide))) ?_
  refine Sy.make (by kernel_rfl) 5 #[bv (l.getD 10 0)] (fun g => .slice (some ⟨g, 0, none⟩) 1 1) (fun _ => by kernel_rfl) (fun g12 => ?_)
  refine Sy.append (by kernel_rfl) 34 5 _ _ Tryd.underlying34 info_u8 rfl rfl rfl rfl _ _ rfl 2 q10 10 c10 ([bv (l.getD 0 0), bv (l.getD 1 0), bv (l.getD 2 0), bv (l.getD 3 0), bv (l.getD 4 0), bv (l.getD 5 0), bv (l.getD 6 0), bv (l.getD 7 0), bv (l.getD 8 0), bv (l.getD 9 0)] ++ s10).toArray [bv (l.getD 0 0), bv (l.getD 1 0), bv (l.getD 2 0), bv (l.getD 3 0), bv (l.getD 4 0), bv (l.getD 5 0), bv (l.getD 6 0), bv (l.getD 7 0), bv (l.getD 8 0), bv (l.getD 9 0)] (by kernel_rfl) (by kernel_rfl) (by kernel_rfl) rfl (by rw [← e10]; simp only [List.size_toArray, List.length_append, List.length_cons, List.length_nil]; omega) m10 3 g12 0 1 1 5 #[bv (l.getD 10 0)] [bv (l.getD 10 0)] (by kernel_rfl) (by kernel_rfl) (by kernel_rfl) rfl (by intro u hu; simp only [List.mem_cons, List.not_mem_nil, or_false] at hu; subst hu; rfl) (by decide) (fun q11 c11 s11 e11 m11 => ?_)
  refine Sy.step (by kernel_rfl) (.slice (some ⟨q11, 0, none⟩) 11 c11) (Quiet.pure (fun _ => by kernel_rfl)) ?_
  refine Sy.nil ?_
  refine Sy.in_ ?_
  refine Sy.then_ ?_
  refine Sy.region ?_
  refine Sy.step (by kernel_rfl) (.int .i64 10) (Quiet.pure (fun _ => by kernel_rfl)) ?_
  refine Sy.step (by kernel_rfl) (.int .i64 11) (Quiet.pure (fun _ => by kernel_rfl)) ?_
  refine Sy.step (by kernel_rfl) (.int .i64 11) (Quiet.pure (fun _ => by kernel_rfl)) ?_
  refine Sy.nil ?_
  refine Sy.again ?_
  refine Sy.tidyR (G := [(1, .pointer (some ⟨g0, 0, none⟩)), (2, .pointer (some ⟨g1, 0, none⟩)), (4, .slice (some ⟨q11, 0, none⟩) 11 c11), (5, .int .i64 11)]) (M := [(g0, 39, (l.map bv).toArray), (g1, 28, (pcs 0 0 false)), (q11, 5, ([bv (l.getD 0 0), bv (l.getD 1 0), bv (l.getD 2 0), bv (l.getD 3 0), bv (l.getD 4 0), bv (l.getD 5 0), bv (l.getD 6 0), bv (l.getD 7 0), bv (l.getD 8 0), bv (l.getD 9 0), bv (l.getD 10 0)] ++ s11).toArray)]) [true, true, true, false] (by kernel_rfl) (all_cons (by kernel_rfl) (all_cons (by kernel_rfl) (all_cons (by kernel_rfl) (all_cons (by kernel_rfl) all_nil)))) ?_
  refine Sy.round ?_
  refine Sy.seq ?_
  refine Sy.seq ?_
  refine Sy.region ?_
  refine Sy.step (by kernel_rfl) (.int .i64 11) (Quiet.pure (fun _ => by kernel_rfl)) ?_
  refine Sy.step (by kernel_rfl) (.bool true) (Quiet.pure (fun _ => by kernel_rfl)) ?_
  refine Sy.nil ?_
  refine Sy.then_ ?_
  refine Sy.cond_t (by kernel_rfl) (by kernel_rfl) ?_
  refine Sy.skip ?_
  refine Sy.then_ ?_
  refine Sy.seq ?_
  refine Sy.block ?_
  refine Sy.region ?_
  refine Sy.step (by kernel_rfl) (.slice (some ⟨q11, 0, none⟩) 11 c11) (Quiet.pure (fun _ => by kernel_rfl)) ?_
  refine Sy.step (by kernel_rfl) (.int .i64 11) (Quiet.pure (fun _ => by kernel_rfl)) ?_
  refine Sy.step (by kernel_rfl) (.pointer (some ⟨g0, 11, none⟩)) (Quiet.pure (fun _ => by kernel_rfl)) ?_
  refine Sy.step (by kernel_rfl) (bv (l.getD 11 0)) (Quiet.cell 0 g0 11 39 5 (l.map bv).toArray _ _ rfl (by kernel_rfl) (by kernel_rfl) Tryd.underlying5 rfl _ (key_at l hl 11 (by decide))) ?_
  refine Sy.make (by kernel_rfl) 5 #[bv (l.getD 11 0)] (fun g => .slice (some ⟨g, 0, none⟩) 1 1) (fun _ => by kernel_rfl) (fun g13 => ?_)
  refine Sy.append (by kernel_rfl) 34 5 _ _ Tryd.underlying34 info_u8 rfl rfl rfl rfl _ _ rfl 2 q11 11 c11 ([bv (l.getD 0 0), bv (l.getD 1 0), bv (l.getD 2 0), bv (l.getD 3 0), bv (l.getD 4 0), bv (l.getD 5 0), bv (l.getD 6 0), bv (l.getD 7 0), bv (l.getD 8 0), bv (l.getD 9 0), bv (l.getD 10 0)] ++ s11).toArray [bv (l.getD 0 0), bv (l.getD 1 0), bv (l.getD 2 0), bv (l.getD 3 0), bv (l.getD 4 0), bv (l.getD 5 0), bv (l.getD 6 0), bv (l.getD 7 0), bv (l.getD 8 0), bv (l.getD 9 0), bv (l.getD 10 0)] (by kernel_rfl) (by kernel_rfl) (by kernel_rfl) rfl (by rw [← e11]; simp only [List.size_toArray, List.length_append, List.length_cons, List.length_nil]; omega) m11 3 g13 0 1 1 5 #[bv (l.getD 11 0)] [bv (l.getD 11 0)] (by kernel_rfl) (by kernel_rfl) (by kernel_rfl) rfl (by intro u hu; simp only [List.mem_cons, List.not_mem_nil, or_false] at hu; subst hu; rfl) (by decide) (fun q12 c12 s12 e12 m12 => ?_)
  refine Sy.step (by kernel_rfl) (.slice (some ⟨q12, 0, none⟩) 12 c12) (Quiet.pure (fun _ => by kernel_rfl)) ?_
  refine Sy.nil ?_
  refine Sy.in_ ?_
  refine Sy.then_ ?_
  refine Sy.region ?_
  refine Sy.step (by kernel_rfl) (.int .i64 11) (Quiet.pure (fun _ => by kernel_rfl)) ?_
  refine Sy.step (by kernel_rfl) (.int .i64 12) (Quiet.pure (fun _ => by kernel_rfl)) ?_
  refine Sy.step (by kernel_rfl) (.int .i64 12) (Quiet.pure (fun _ => by kernel_rfl)) ?_
  refine Sy.nil ?_
  refine Sy.again ?_
  refine Sy.tidyR (G := [(1, .pointer (some ⟨g0, 0, none⟩)), (2, .pointer (some ⟨g1, 0, none⟩)), (4, .slice (some ⟨q12, 0, none⟩) 12 c12), (5, .int .i64 12)]) (M := [(g0, 39, (l.map bv).toArray), (g1, 28, (pcs 0 0 false)), (q12, 5, ([bv (l.getD 0 0), bv (l.getD 1 0), bv (l.getD 2 0), bv (l.getD 3 0), bv (l.getD 4 0), bv (l.getD 5 0), bv (l.getD 6 0), bv (l.getD 7 0), bv (l.getD 8 0), bv (l.getD 9 0), bv (l.getD 10 0), bv (l.getD 11 0)] ++ s12).toArray)]) [true, true, true, false] (by kernel_rfl) (all_cons (by kernel_rfl) (all_cons (by kernel_rfl) (all_cons (by kernel_rfl) (all_cons (by kernel_rfl) all_nil)))) ?_
  refine Sy.round ?_
  refine Sy.seq ?_
  refine Sy.seq ?_
  refine Sy.region ?_
  refine Sy.step (by kernel_rfl) (.int .i64 12) (Quiet.pure (fun _ => by kernel_rfl)) ?_
  refine Sy.step (by kernel_rfl) (.bool true) (Quiet.pure (fun _ => by kernel_rfl)) ?_
  refine Sy.nil ?_
  refine Sy.then_ ?_
  refine Sy.cond_t (by kernel_rfl) (by kernel_rfl) ?_
  refine Sy.skip ?_
  refine Sy.then_ ?_
  refine Sy.seq ?_
  refine Sy.block ?_
  refine Sy.region ?_
  refine Sy.step (by kernel_rfl) (.slice (some ⟨q12, 0, none⟩) 12 c12) (Quiet.pure (fun _ => by kernel_rfl)) ?_
  refine Sy.step (by kernel_rfl) (.int .i64 12) (Quiet.pure (fun _ => by kernel_rfl)) ?_
  refine Sy.step (by kernel_rfl) (.pointer (some ⟨g0, 12, none⟩)) (Quiet.pure (fun _ => by kernel_rfl)) ?_
  refine Sy.step (by kernel_rfl) (bv (l.getD 12 0)) (Quiet.cell 0 g0 12 39 5 (l.map bv).toArray _ _ rfl (by kernel_rfl) (by kernel_rfl) Tryd.underlying5 rfl _ (key_at l hl 12 (by decide))) ?_
  refine Sy.make (by kernel_rfl) 5 #[bv (l.getD 12 0)] (fun g => .slice (some ⟨g, 0, none⟩) 1 1) (fun _ => by kernel_rfl) (fun g14 => ?_)
  refine Sy.append (by kernel_rfl) 34 5 _ _ Tryd.underlying34 info_u8 rfl rfl rfl rfl _ _ rfl 2 q12 12 c12 ([bv (l.getD 0 0), bv (l.getD 1 0), bv (l.getD 2 0), bv (l.getD 3 0), bv (l.getD 4 0), bv (l.getD 5 0), bv (l.getD 6 0), bv (l.getD 7 0), bv (l.getD 8 0), bv (l.getD 9 0), bv (l.getD 10 0), bv (l.getD 11 0)] ++ s12).toArray [bv (l.getD 0 0), bv (l.getD 1 0), bv (l.getD 2 0), bv (l.getD 3 0), bv (l.getD 4 0), bv (l.getD 5 0), bv (l.getD 6 0), bv (l.getD 7 0), bv (l.getD 8 0), bv (l.getD 9 0), bv (l.getD 10 0), bv (l.getD 11 0)] (by kernel_rfl) (by kernel_rfl) (by kernel_rfl) rfl (by rw [← e12]; simp only [List.size_toArray, List.length_append, List.length_cons, List.length_nil]; omega) m12 3 g14 0 1 1 5 #[bv (l.getD 12 0)] [bv (l.getD 12 0)] (by kernel_rfl) (by kernel_rfl) (by kernel_rfl) rfl (by intro u hu; simp only [List.mem_cons, List.not_mem_nil, or_false] at hu; subst hu; rfl) (by decide) (fun q13 c13 s13 e13 m13 => ?_)
  refine Sy.step (by kernel_rfl) (.slice (some ⟨q13, 0, none⟩) 13 c13) (Quiet.pure (fun _ => by kernel_rfl)) ?_
  refine Sy.nil ?_
  refine Sy.in_ ?_
  refine Sy.then_ ?_
  refine Sy.region ?_
  refine Sy.step (by kernel_rfl) (.int .i64 12) (Quiet.pure (fun _ => by kernel_rfl)) ?_
  refine Sy.step (by kernel_rfl) (.int .i64 13) (Quiet.pure (fun _ => by kernel_rfl)) ?_
  refine Sy.step (by kernel_rfl) (.int .i64 13) (Quiet.pure (fun _ => by kernel_rfl)) ?_
  refine Sy.nil ?_
  refine Sy.again ?_
  refine Sy.tidyR (G := [(1, .pointer (some ⟨g0, 0, none⟩)), (2, .pointer (some ⟨g1, 0, none⟩)), (4, .slice (some ⟨q13, 0, none⟩) 13 c13), (5, .int .i64 13)]) (M := [(g0, 39, (l.map bv).toArray), (g1, 28, (pcs 0 0 false)), (q13, 5, ([bv (l.getD 0 0), bv (l.getD 1 0), bv (l.getD 2 0), bv (l.getD 3 0), bv (l.getD 4 0), bv (l.getD 5 0), bv (l.getD 6 0), bv (l.getD 7 0), bv (l.getD 8 0), bv (l.getD 9 0), bv (l.getD 10 0), bv (l.getD 11 0), bv (l.getD 12 0)] ++ s13).toArray)]) [true, true, true, false] (by kernel_rfl) (all_cons (by kernel_rfl) (all_cons (by kernel_rfl) (all_cons (by kernel_rfl) (all_cons (by kernel_rfl) all_nil)))) ?_
  refine Sy.round ?_
  refine Sy.seq ?_
  refine Sy.seq ?_
  refine Sy.region ?_
  refine Sy.step (by kernel_rfl) (.int .i64 13) (Quiet.pure (fun _ => by kernel_rfl)) ?_
  refine Sy.step (by kernel_rfl) (.bool true) (Quiet.pure (fun _ => by kernel_rfl)) ?_
  refine Sy.nil ?_
  refine Sy.then_ ?_
  refine Sy.cond_t (by kernel_rfl) (by kernel_rfl) ?_
  refine Sy.skip ?_
  refine Sy.then_ ?_
  refine Sy.seq ?_
  refine Sy.block ?_
  refine Sy.region ?_
  refine Sy.step (by kernel_rfl) (.slice (some ⟨q13, 0, none⟩) 13 c13) (Quiet.pure (fun _ => by kernel_rfl)) ?_
  refine Sy.step (by kernel_rfl) (.int .i64 13) (Quiet.pure (fun _ => by kernel_rfl)) ?_
  refine Sy.step (by kernel_rfl) (.pointer (some ⟨g0, 13, none⟩)) (Quiet.pure (fun _ => by kernel_rfl)) ?_
  refine Sy.step (by kernel_rfl) (bv (l.getD 13 0)) (Quiet.cell 0 g0 13 39 5 (l.map bv).toArray _ _ rfl (by kernel_rfl) (by kernel_rfl) Tryd.underlying5 rfl _ (key_at l hl 13 (by decide))) ?_
  refine Sy.make (by kernel_rfl) 5 #[bv (l.getD 13 0)] (fun g => .slice (some ⟨g, 0, none⟩) 1 1) (fun _ => by kernel_rfl) (fun g15 => ?_)
  refine Sy.append (by kernel_rfl) 34 5 _ _ Tryd.underlying34 info_u8 rfl rfl rfl rfl _ _ rfl 2 q13 13 c13 ([bv (l.getD 0 0), bv (l.getD 1 0), bv (l.getD 2 0), bv (l.getD 3 0), bv (l.getD 4 0), bv (l.getD 5 0), bv (l.getD 6 0), bv (l.getD 7 0), bv (l.getD 8 0), bv (l.getD 9 0), bv (l.getD 10 0), bv (l.getD 11 0), bv (l.getD 12 0)] ++ s13).toArray [bv (l.getD 0 0), bv (l.getD 1 0), bv (l.getD 2 0), bv (l.getD 3 0), bv (l.getD 4 0), bv (l.getD 5 0), bv (l.getD 6 0), bv (l.getD 7 0), bv (l.getD 8 0), bv (l.getD 9 0), bv (l.getD 10 0), bv (l.getD 11 0), bv (l.getD 12 0)] (by kernel_rfl) (by kernel_rfl) (by kernel_rfl) rfl (by rw [← e13]; simp only [List.size_toArray, List.length_append, List.length_cons, List.length_nil]; omega) m13 3 g15 0 1 1 5 #[bv (l.getD 13 0)] [bv (l.getD 13 0)] (by kernel_rfl) (by kernel_rfl) (by kernel_rfl) rfl (by intro u hu; simp only [List.mem_cons, List.not_mem_nil, or_false] at hu; subst hu; rfl) (by decide) (fun q14 c14 s14 e14 m14 => ?_)
  refine Sy.step (by kernel_rfl) (.slice (some ⟨q14, 0, none⟩) 14 c14) (Quiet.pure (fun _ => by kernel_rfl)) ?_
  refine Sy.nil ?_
  refine Sy.in_ ?_
  refine Sy.then_ ?_
  refine Sy.region ?_
  refine Sy.step (by kernel_rfl) (.int .i64 13) (Quiet.pure (fun _ => by kernel_rfl)) ?_
  refine Sy.step (by kernel_rfl) (.int .i64 14) (Quiet.pure (fun _ => by kernel_rfl)) ?_
  refine Sy.step (by kernel_rfl) (.int .i64 14) (Quiet.pure (fun _ => by kernel_rfl)) ?_
  refine Sy.nil ?_
  refine Sy.again ?_
  refine Sy.tidyR (G := [(1, .pointer (some ⟨g0, 0, none⟩)), (2, .pointer (some ⟨g1, 0, none⟩)), (4, .slice (some ⟨q14, 0, none⟩) 14 c14), (5, .int .i64 14)]) (M := [(g0, 39, (l.map bv).toArray), (g1, 28, (pcs 0 0 false)), (q14, 5, ([bv (l.getD 0 0), bv (l.getD 1 0), bv (l.getD 2 0), bv (l.getD 3 0), bv (l.getD 4 0), bv (l.getD 5 0), bv (l.getD 6 0), bv (l.getD 7 0), bv (l.getD 8 0), bv (l.getD 9 0), bv (l.getD 10 0), bv (l.getD 11 0), bv (l.getD 12 0), bv (l.getD 13 0)] ++ s14).toArray)]) [true, true, true, false] (by kernel_rfl) (all_cons (by kernel_rfl) (all_cons (by kernel_rfl) (all_cons (by kernel_rfl) (all_cons (by kernel_rfl) all_nil)))) ?_
  refine Sy.round ?_
  refine Sy.seq ?_
  refine Sy.seq ?_
  refine Sy.region ?_
  refine Sy.step (by kernel_rfl) (.int .i64 14) (Quiet.pure (fun _ => by kernel_rfl)) ?_
  refine Sy.step (by kernel_rfl) (.bool true) (Quiet.pure (fun _ => by kernel_rfl)) ?_
  refine Sy.nil ?_
  refine Sy.then_ ?_
  refine Sy.cond_t (by kernel_rfl) (by kernel_rfl) ?_
  refine Sy.skip ?_
  refine Sy.then_ ?_
  refine Sy.seq ?_
  refine Sy.block ?_
  refine Sy.region ?_
  refine Sy.step (by kernel_rfl) (.slice (some ⟨q14, 0, none⟩) 14 c14) (Quiet.pure (fun _ => by kernel_rfl)) ?_
  refine Sy.step (by kernel_rfl) (.int .i64 14) (Quiet.pure (fun _ => by kernel_rfl)) ?_
  refine Sy.step (by kernel_rfl) (.pointer (some ⟨g0, 14, none⟩)) (Quiet.pure (fun _ => by kernel_rfl)) ?_
  refine Sy.step (by kernel_rfl) (bv (l.getD 14 0)) (Quiet.cell 0 g0 14 39 5 (l.map bv).toArray _ _ rfl (by kernel_rfl) (by kernel_rfl) Tryd.underlying5 rfl _ (key_at l hl 14 (by decide))) ?_
  refine Sy.make (by kernel_rfl) 5 #[bv (l.getD 14 0)] (fun g => .slice (some ⟨g, 0, none⟩) 1 1) (fun _ => by kernel_rfl) (fun g16 => ?_)
  refine Sy.append (by kernel_rfl) 34 5 _ _ Tryd.underlying34 info_u8 rfl rfl rfl rfl _ _ rfl 2 q14 14 c14 ([bv (l.getD 0 0), bv (l.getD 1 0), bv (l.getD 2 0), bv (l.getD 3 0), bv (l.getD 4 0), bv (l.getD 5 0), bv (l.getD 6 0), bv (l.getD 7 0), bv (l.getD 8 0), bv (l.getD 9 0), bv (l.getD 10 0), bv (l.getD 11 0), bv (l.getD 12 0), bv (l.getD 13 0)] ++ s14).toArray [bv (l.getD 0 0), bv (l.getD 1 0), bv (l.getD 2 0), bv (l.getD 3 0), bv (l.getD 4 0), bv (l.getD 5 0), bv (l.getD 6 0), bv (l.getD 7 0), bv (l.getD 8 0), bv (l.getD 9 0), bv (l.getD 10 0), bv (l.getD 11 0), bv (l.getD 12 0), bv (l.getD 13 0)] (by kernel_rfl) (by kernel_rfl) (by kernel_rfl) rfl (by rw [← e14]; simp only [List.size_toArray, List.length_append, List.length_cons, List.length_nil]; omega) m14 3 g16 0 1 1 5 #[bv (l.getD 14 0)] [bv (l.getD 14 0)] (by kernel_rfl) (by kernel_rfl) (by kernel_rfl) rfl (by intro u hu; simp only [List.mem_cons, List.not_mem_nil, or_false] at hu; subst hu; rfl) (by decide) (fun q15 c15 s15 e15 m15 => ?_)
  refine Sy.step (by kernel_rfl) (.slice (some ⟨q15, 0, none⟩) 15 c15) (Quiet.pure (fun _ => by kernel_rfl)) ?_
  refine Sy.nil ?_
  refine Sy.in_ ?_
  refine Sy.then_ ?_
  refine Sy.region ?_
  refine Sy.step (by kernel_rfl) (.int .i64 14) (Quiet.pure (fun _ => by kernel_rfl)) ?_
  refine Sy.step (by kernel_rfl) (.int .i64 15) (Quiet.pure (fun _ => by kernel_rfl)) ?_
  refine Sy.step (by kernel_rfl) (.int .i64 15) (Quiet.pure (fun _ => by kernel_rfl)) ?_
  refine Sy.nil ?_
  refine Sy.again ?_
  refine Sy.tidyR (G := [(1, .pointer (some ⟨g0, 0, none⟩)), (2, .pointer (some ⟨g1, 0, none⟩)), (4, .slice (some ⟨q15, 0, none⟩) 15 c15), (5, .int .i64 15)]) (M := [(g0, 39, (l.map bv).toArray), (g1, 28, (pcs 0 0 false)), (q15, 5, ([bv (l.getD 0 0), bv (l.getD 1 0), bv (l.getD 2 0), bv (l.getD 3 0), bv (l.getD 4 0), bv (l.getD 5 0), bv (l.getD 6 0), bv (l.getD 7 0), bv (l.getD 8 0), bv (l.getD 9 0), bv (l.getD 10 0), bv (l.getD 11 0), bv (l.getD 12 0), bv (l.getD 13 0), bv (l.getD 14 0)] ++ s15).toArray)]) [true, true, true, false] (by kernel_rfl) (all_cons (by kernel_rfl) (all_cons (by kernel_rfl) (all_cons (by kernel_rfl) (all_cons (by kernel_rfl) all_nil)))) ?_
  refine Sy.round ?_
  refine Sy.seq ?_
  refine Sy.seq ?_
  refine Sy.region ?_
  refine Sy.step (by kernel_rfl) (.int .i64 15) (Quiet.pure (fun _ => by kernel_rfl)) ?_
  refine Sy.step (by kernel_rfl) (.bool true) (Quiet.pure (fun _ => by kernel_rfl)) ?_
  refine Sy.nil ?_
  refine Sy.then_ ?_
  refine Sy.cond_t (by kernel_rfl) (by kernel_rfl) ?_
  refine Sy.skip ?_
  refine Sy.then_ ?_
  refine Sy.seq ?_
  refine Sy.block ?_
  refine Sy.region ?_
  refine Sy.step (by kernel_rfl) (.slice (some ⟨q15, 0, none⟩) 15 c15) (Quiet.pure (fun _ => by kernel_rfl)) ?_
  refine Sy.step (by kernel_rfl) (.int .i64 15) (Quiet.pure (fun _ => by kernel_rfl)) ?_
  refine Sy.step (by kernel_rfl) (.pointer (some ⟨g0, 15, none⟩)) (Quiet.pure (fun _ => by kernel_rfl)) ?_
  refine Sy.step (by kernel_rfl) (bv (l.getD 15 0)) (Quiet.cell 0 g0 15 39 5 (l.map bv).toArray _ _ rfl (by kernel_rfl) (by kernel_rfl) Tryd.underlying5 rfl _ (key_at l hl 15 (by decide))) ?_
  refine Sy.make (by kernel_rfl) 5 #[bv (l.getD 15 0)] (fun g => .slice (some ⟨g, 0, none⟩) 1 1) (fun _ => by kernel_rfl) (fun g17 => ?_)
  refine Sy.append (by kernel_rfl) 34 5 _ _ Tryd.underlying34 info_u8 rfl rfl rfl rfl _ _ rfl 2 q15 15 c15 ([bv (l.getD 0 0), bv (l.getD 1 0), bv (l.getD 2 0), bv (l.getD 3 0), bv (l.getD 4 0), bv (l.getD 5 0), bv (l.getD 6 0), bv (l.getD 7 0), bv (l.getD 8 0), bv (l.getD 9 0), bv (l.getD 10 0), bv (l.getD 11 0), bv (l.getD 12 0), bv (l.getD 13 0), bv (l.getD 14 0)] ++ s15).toArray [bv (l.getD 0 0), bv (l.getD 1 0), bv (l.getD 2 0), bv (l.getD 3 0), bv (l.getD 4 0), bv (l.getD 5 0), bv (l.getD 6 0), bv (l.getD 7 0), bv (l.getD 8 0), bv (l.getD 9 0), bv (l.getD 10 0), bv (l.getD 11 0), bv (l.getD 12 0), bv (l.getD 13 0), bv (l.getD 14 0)] (by kernel_rfl) (by kernel_rfl) (by kernel_rfl) rfl (by rw [← e15]; simp only [List.size_toArray, List.length_append, List.length_cons, List.length_nil]; omega) m15 3 g17 0 1 1 5 #[bv (l.getD 15 0)] [bv (l.getD 15 0)] (by kernel_rfl) (by kernel_rfl) (by kernel_rfl) rfl (by intro u hu; simp only [List.mem_cons, List.not_mem_nil, or_false] at hu; subst hu; rfl) (by decide) (fun q16 c16 s16 e16 m16 => ?_)
  refine Sy.step (by kernel_rfl) (.slice (some ⟨q16, 0, none⟩) 16 c16) (Quiet.pure (fun _ => by kernel_rfl)) ?_
  refine Sy.nil ?_
  refine Sy.in_ ?_
  refine Sy.then_ ?_
  refine Sy.region ?_
  refine Sy.step (by kernel_rfl) (.int .i64 15) (Quiet.pure (fun _ => by kernel_rfl)) ?_
  refine Sy.step (by kernel_rfl) (.int .i64 16) (Quiet.pure (fun _ => by kernel_rfl)) ?_
  refine Sy.step (by kernel_rfl) (.int .i64 16) (Quiet.pure (fun _ => by kernel_rfl)) ?_
  refine Sy.nil ?_
  refine Sy.again ?_
  refine Sy.tidyR (G := [(1, .pointer (some ⟨g0, 0, none⟩)), (2, .pointer (some ⟨g1, 0, none⟩)), (4, .slice (some ⟨q16, 0, none⟩) 16 c16), (5, .int .i64 16)]) (M := [(g0, 39, (l.map bv).toArray), (g1, 28, (pcs 0 0 false)), (q16, 5, ([bv (l.getD 0 0), bv (l.getD 1 0), bv (l.getD 2 0), bv (l.getD 3 0), bv (l.getD 4 0), bv (l.getD 5 0), bv (l.getD 6 0), bv (l.getD 7 0), bv (l.getD 8 0), bv (l.getD 9 0), bv (l.getD 10 0), bv (l.getD 11 0), bv (l.getD 12 0), bv (l.getD 13 0), bv (l.getD 14 0), bv (l.getD 15 0)] ++ s16).toArray)]) [true, true, true, false] (by kernel_rfl) (all_cons (by kernel_rfl) (all_cons (by kernel_rfl) (all_cons (by kernel_rfl) (all_cons (by kernel_rfl) all_nil)))) ?_
  refine Sy.round ?_
  refine Sy.seq ?_
  refine Sy.seq ?_
  refine Sy.region ?_
  refine Sy.step (by kernel_rfl) (.int .i64 16) (Quiet.pure (fun _ => by kernel_rfl)) ?_
  refine Sy.step (by kernel_rfl) (.bool true) (Quiet.pure (fun _ => by kernel_rfl)) ?_
  refine Sy.nil ?_
  refine Sy.then_ ?_
  refine Sy.cond_t (by kernel_rfl) (by kernel_rfl) ?_
  refine Sy.skip ?_
  refine Sy.then_ ?_
  refine Sy.seq ?_
  refine Sy.block ?_
  refine Sy.region ?_
  refine Sy.step (by kernel_rfl) (.slice (some ⟨q16, 0, none⟩) 16 c16) (Quiet.pure (fun _ => by kernel_rfl)) ?_
  refine Sy.step (by kernel_rfl) (.int .i64 16) (Quiet.pure (fun _ => by kernel_rfl)) ?_
  refine Sy.step (by kernel_rfl) (.pointer (some ⟨g0, 16, none⟩)) (Quiet.pure (fun _ => by kernel_rfl)) ?_
  refine Sy.step (by kernel_rfl) (bv (l.getD 16 0)) (Quiet.cell 0 g0 16 39 5 (l.map bv).toArray _ _ rfl (by kernel_rfl) (by kernel_rfl) Tryd.underlying5 rfl _ (key_at l hl 16 (by decide))) ?_
  refine Sy.make (by kernel_rfl) 5 #[bv (l.getD 16 0)] (fun g => .slice (some ⟨g, 0, none⟩) 1 1) (fun _ => by kernel_rfl) (fun g18 => ?_)
  refine Sy.append (by kernel_rfl) 34 5 _ _ Tryd.underlying34 info_u8 rfl rfl rfl rfl _ _ rfl 2 q16 16 c16 ([bv (l.getD 0 0), bv (l.getD 1 0), bv (l.getD 2 0), bv (l.getD 3 0), bv (l.getD 4 0), bv (l.getD 5 0), bv (l.getD 6 0), bv (l.getD 7 0), bv (l.getD 8 0), bv (l.getD 9 0), bv (l.getD 10 0), bv (l.getD 11 0), bv (l.getD 12 0), bv (l.getD 13 0), bv (l.getD 14 0), bv (l.getD 15 0)] ++ s16).toArray [bv (l.getD 0 0), bv (l.getD 1 0), bv (l.getD 2 0), bv (l.getD 3 0), bv (l.getD 4 0), bv (l.getD 5 0), bv (l.getD 6 0), bv (l.getD 7 0), bv (l.getD 8 0), bv (l.getD 9 0), bv (l.getD 10 0), bv (l.getD 11 0), bv (l.getD 12 0), bv (l.getD 13 0), bv (l.getD 14 0), bv (l.getD 15 0)] (by kernel_rfl) (by kernel_rfl) (by kernel_rfl) rfl (by rw [← e16]; simp only [List.size_toArray, List.length_append, List.length_cons, List.length_nil]; omega) m16 3 g18 0 1 1 5 #[bv (l.getD 16 0)] [bv (l.getD 16 0)] (by kernel_rfl) (by kernel_rfl) (by kernel_rfl) rfl (by intro u hu; simp only [List.mem_cons, List.not_mem_nil, or_false] at hu; subst hu; rfl) (by decide) (fun q17 c17 s17 e17 m17 => ?_)
  refine Sy.step (by kernel_rfl) (.slice (some ⟨q17, 0, none⟩) 17 c17) (Quiet.pure (fun _ => by kernel_rfl)) ?_
  refine Sy.nil ?_
  refine Sy.in_ ?_
  refine Sy.then_ ?_
  refine Sy.region ?_
  refine Sy.step (by kernel_rfl) (.int .i64 16) (Quiet.pure (fun _ => by kernel_rfl)) ?_
  refine Sy.step (by kernel_rfl) (.int .i64 17) (Quiet.pure (fun _ => by kernel_rfl)) ?_
  refine Sy.step (by kernel_rfl) (.int .i64 17) (Quiet.pure (fun _ => by kernel_rfl)) ?_
  refine Sy.nil ?_
  refine Sy.again ?_
  refine Sy.tidyR (G := [(1, .pointer (some ⟨g0, 0, none⟩)), (2, .pointer (some ⟨g1, 0, none⟩)), (4, .slice (some ⟨q17, 0, none⟩) 17 c17), (5, .int .i64 17)]) (M := [(g0, 39, (l.map bv).toArray), (g1, 28, (pcs 0 0 false)), (q17, 5, ([bv (l.getD 0 0), bv (l.getD 1 0), bv (l.getD 2 0), bv (l.getD 3 0), bv (l.getD 4 0), bv (l.getD 5 0), bv (l.getD 6 0), bv (l.getD 7 0), bv (l.getD 8 0), bv (l.getD 9 0), bv (l.getD 10 0), bv (l.getD 11 0), bv (l.getD 12 0), bv (l.getD 13 0), bv (l.getD 14 0), bv (l.getD 15 0), bv (l.getD 16 0)] ++ s17).toArray)]) [true, true, true, false] (by kernel_rfl) (all_cons (by kernel_rfl) (all_cons (by kernel_rfl) (all_cons (by kernel_rfl) (all_cons (by kernel_rfl) all_nil)))) ?_
  refine Sy.round ?_
  refine Sy.seq ?_
  refine Sy.seq ?_
  refine Sy.region ?_
  refine Sy.step (by kernel_rfl) (.int .i64 17) (Quiet.pure (fun _ => by kernel_rfl)) ?_
  refine Sy.step (by kernel_rfl) (.bool true) (Quiet.pure (fun _ => by kernel_rfl)) ?_
  refine Sy.nil ?_
  refine Sy.then_ ?_
  refine Sy.cond_t (by kernel_rfl) (by kernel_rfl) ?_
  refine Sy.skip ?_
  refine Sy.then_ ?_
  refine Sy.seq ?_
  refine Sy.block ?_
  refine Sy.region ?_
  refine Sy.step (by kernel_rfl) (.slice (some ⟨q17, 0, none⟩) 17 c17) (Quiet.pure (fun _ => by kernel_rfl)) ?_
  refine Sy.step (by kernel_rfl) (.int .i64 17) (Quiet.pure (fun _ => by kernel_rfl)) ?_
  refine Sy.step (by kernel_rfl) (.pointer (some ⟨g0, 17, none⟩)) (Quiet.pure (fun _ => by kernel_rfl)) ?_
  refine Sy.step (by kernel_rfl) (bv (l.getD 17 0)) (Quiet.cell 0 g0 17 39 5 (l.map bv).toArray _ _ rfl (by kernel_rfl) (by kernel_rfl) Tryd.underlying5 rfl _ (key_at l hl 17 (by decide))) ?_
  refine Sy.make (by kernel_rfl) 5 #[bv (l.getD 17 0)] (fun g => .slice (some ⟨g, 0, none⟩) 1 1) (fun _ => by kernel_rfl) (fun g19 => ?_)
  refine Sy.append (by kernel_rfl) 34 5 _ _ Tryd.underlying34 info_u8 rfl rfl rfl rfl _ _ rfl 2 q17 17 c17 ([bv (l.getD 0 0), bv (l.getD 1 0), bv (l.getD 2 0), bv (l.getD 3 0), bv (l.getD 4 0), bv (l.getD 5 0), bv (l.getD 6 0), bv (l.getD 7 0), bv (l.getD 8 0), bv (l.getD 9 0), bv (l.getD 10 0), bv (l.getD 11 0), bv (l.getD 12 0), bv (l.getD 13 0), bv (l.getD 14 0), bv (l.getD 15 0), bv (l.getD 16 0)] ++ s17).toArray [bv (l.getD 0 0), bv (l.getD 1 0), bv (l.getD 2 0), bv (l.getD 3 0), bv (l.getD 4 0), bv (l.getD 5 0), bv (l.getD 6 0), bv (l.getD 7 0), bv (l.getD 8 0), bv (l.getD 9 0), bv (l.getD 10 0), bv (l.getD 11 0), bv (l.getD 12 0), bv (l.getD 13 0), bv (l.getD 14 0), bv (l.getD 15 0), bv (l.getD 16 0)] (by kernel_rfl) (by kernel_rfl) (by kernel_rfl) rfl (by rw [← e17]; simp only [List.size_toArray, List.length_append, List.length_cons, List.length_nil]; omega) m17 3 g19 0 1 1 5 #[bv (l.getD 17 0)] [bv (l.getD 17 0)] (by kernel_rfl) (by kernel_rfl) (by kernel_rfl) rfl (by intro u hu; simp only [List.mem_cons, List.not_mem_nil, or_false] at hu; subst hu; rfl) (by decide) (fun q18 c18 s18 e18 m18 => ?_)
  refine Sy.step (by kernel_rfl) (.slice (some ⟨q18, 0, none⟩) 18 c18) (Quiet.pure (fun _ => by kernel_rfl)) ?_
  refine Sy.nil ?_
  refine Sy.in_ ?_
  refine Sy.then_ ?_
  refine Sy.region ?_
  refine Sy.step (by kernel_rfl) (.int .i64 17) (Quiet.pure (fun _ => by kernel_rfl)) ?_
  refine Sy.step (by kernel_rfl) (.int .i64 18) (Quiet.pure (fun _ => by kernel_rfl)) ?_
  refine Sy.step (by kernel_rfl) (.int .i64 18) (Quiet.pure (fun _ => by kernel_rfl)) ?_
  refine Sy.nil ?_
  refine Sy.again ?_
  refine Sy.tidyR (G := [(1, .pointer (some ⟨g0, 0, none⟩)), (2, .pointer (some ⟨g1, 0, none⟩)), (4, .slice (some ⟨q18, 0, none⟩) 18 c18), (5, .int .i64 18)]) (M := [(g0, 39, (l.map bv).toArray), (g1, 28, (pcs 0 0 false)), (q18, 5, ([bv (l.getD 0 0), bv (l.getD 1 0), bv (l.getD 2 0), bv (l.getD 3 0), bv (l.getD 4 0), bv (l.getD 5 0), bv (l.getD 6 0), bv (l.getD 7 0), bv (l.getD 8 0), bv (l.getD 9 0), bv (l.getD 10 0), bv (l.getD 11 0), bv (l.getD 12 0), bv (l.getD 13 0), bv (l.getD 14 0), bv (l.getD 15 0), bv (l.getD 16 0), bv (l.getD 17 0)] ++ s18).toArray)]) [true, true, true, false] (by kernel_rfl) (all_cons (by kernel_rfl) (all_cons (by kernel_rfl) (all_cons (by kernel_rfl) (all_cons (by kernel_rfl) all_nil)))) ?_
  refine Sy.round ?_
  refine Sy.seq ?_
  refine Sy.seq ?_
  refine Sy.region ?_
  refine Sy.step (by kernel_rfl) (.int .i64 18) (Quiet.pure (fun _ => by kernel_rfl)) ?_
  refine Sy.step (by kernel_rfl) (.bool true) (Quiet.pure (fun _ => by kernel_rfl)) ?_
  refine Sy.nil ?_
  refine Sy.then_ ?_
  refine Sy.cond_t (by kernel_rfl) (by kernel_rfl) ?_
  refine Sy.skip ?_
  refine Sy.then_ ?_
  refine Sy.seq ?_
  refine Sy.block ?_
  refine Sy.region ?_
  refine Sy.step (by kernel_rfl) (.slice (some ⟨q18, 0, none⟩) 18 c18) (Quiet.pure (fun _ => by kernel_rfl)) ?_
  refine Sy.step (by kernel_rfl) (.int .i64 18) (Quiet.pure (fun _ => by kernel_rfl)) ?_
  refine Sy.step (by kernel_rfl) (.pointer (some ⟨g0, 18, none⟩)) (Quiet.pure (fun _ => by kernel_rfl)) ?_
  refine Sy.step (by kernel_rfl) (bv (l.getD 18 0)) (Quiet.cell 0 g0 18 39 5 (l.map bv).toArray _ _ rfl (by kernel_rfl) (by kernel_rfl) Tryd.underlying5 rfl _ (key_at l hl 18 (by decide))) ?_
  refine Sy.make (by kernel_rfl) 5 #[bv (l.getD 18 0)] (fun g => .slice (some ⟨g, 0, none⟩) 1 1) (fun _ => by kernel_rfl) (fun g20 => ?_)
  refine Sy.append (by kernel_rfl) 34 5 _ _ Tryd.underlying34 info_u8 rfl rfl rfl rfl _ _ rfl 2 q18 18 c18 ([bv (l.getD 0 0), bv (l.getD 1 0), bv (l.getD 2 0), bv (l.getD 3 0), bv (l.getD 4 0), bv (l.getD 5 0), bv (l.getD 6 0), bv (l.getD 7 0), bv (l.getD 8 0), bv (l.getD 9 0), bv (l.getD 10 0), bv (l.getD 11 0), bv (l.getD 12 0), bv (l.getD 13 0), bv (l.getD 14 0), bv (l.getD 15 0), bv (l.getD 16 0), bv (l.getD 17 0)] ++ s18).toArray [bv (l.getD 0 0), bv (l.getD 1 0), bv (l.getD 2 0), bv (l.getD 3 0), bv (l.getD 4 0), bv (l.getD 5 0), bv (l.getD 6 0), bv (l.getD 7 0), bv (l.getD 8 0), bv (l.getD 9 0), bv (l.getD 10 0), bv (l.getD 11 0), bv (l.getD 12 0), bv (l.getD 13 0), bv (l.getD 14 0), bv (l.getD 15 0), bv (l.getD 16 0), bv (l.getD 17 0)] (by kernel_rfl) (by kernel_rfl) (by kernel_rfl) rfl (by rw [← e18]; simp only [List.size_toArray, List.length_append, List.length_cons, List.length_nil]; omega) m18 3 g20 0 1 1 5 #[bv (l.getD 18 0)] [bv (l.getD 18 0)] (by kernel_rfl) (by kernel_rfl) (by kernel_rfl) rfl (by intro u hu; simp only [List.mem_cons, List.not_mem_nil, or_false] at hu; subst hu; rfl) (by decide) (fun q19 c19 s19 e19 m19 => ?_)
  refine Sy.step (by kernel_rfl) (.slice (some ⟨q19, 0, none⟩) 19 c19) (Quiet.pure (fun _ => by kernel_rfl)) ?_
  refine Sy.nil ?_
  refine Sy.in_ ?_
  refine Sy.then_ ?_
  refine Sy.region ?_
  refine Sy.step (by kernel_rfl) (.int .i64 18) (Quiet.pure (fun _ => by kernel_rfl)) ?_
  refine Sy.step (by kernel_rfl) (.int .i64 19) (Quiet.pure (fun _ => by kernel_rfl)) ?_
  refine Sy.step (by kernel_rfl) (.int .i64 19) (Quiet.pure (fun _ => by kernel_rfl)) ?_
  refine Sy.nil ?_
  refine Sy.again ?_
  refine Sy.tidyR (G := [(1, .pointer (some ⟨g0, 0, none⟩)), (2, .pointer (some ⟨g1, 0, none⟩)), (4, .slice (some ⟨q19, 0, none⟩) 19 c19), (5, .int .i64 19)]) (M := [(g0, 39, (l.map bv).toArray), (g1, 28, (pcs 0 0 false)), (q19, 5, ([bv (l.getD 0 0), bv (l.getD 1 0), bv (l.getD 2 0), bv (l.getD 3 0), bv (l.getD 4 0), bv (l.getD 5 0), bv (l.getD 6 0), bv (l.getD 7 0), bv (l.getD 8 0), bv (l.getD 9 0), bv (l.getD 10 0), bv (l.getD 11 0), bv (l.getD 12 0), bv (l.getD 13 0), bv (l.getD 14 0), bv (l.getD 15 0), bv (l.getD 16 0), bv (l.getD 17 0), bv (l.getD 18 0)] ++ s19).toArray)]) [true, true, true, false] (by kernel_rfl) (all_cons (by kernel_rfl) (all_cons (by kernel_rfl) (all_cons (by kernel_rfl) (all_cons (by kernel_rfl) all_nil)))) ?_
  refine Sy.round ?_
  refine Sy.seq ?_
  refine Sy.seq ?_
  refine Sy.region ?_
  refine Sy.step (by kernel_rfl) (.int .i64 19) (Quiet.pure (fun _ => by kernel_rfl)) ?_
  refine Sy.step (by kernel_rfl) (.bool true) (Quiet.pure (fun _ => by kernel_rfl)) ?_
  refine Sy.nil ?_
  refine Sy.then_ ?_
  refine Sy.cond_t (by kernel_rfl) (by kernel_rfl) ?_
  refine Sy.skip ?_
  refine Sy.then_ ?_
  refine Sy.seq ?_
  refine Sy.block ?_
  refine Sy.region ?_
  refine Sy.step (by kernel_rfl) (.slice (some ⟨q19, 0, none⟩) 19 c19) (Quiet.pure (fun _ => by kernel_rfl)) ?_
  refine Sy.step (by kernel_rfl) (.int .i64 19) (Quiet.pure (fun _ => by kernel_rfl)) ?_
  refine Sy.step (by kernel_rfl) (.pointer (some ⟨g0, 19, none⟩)) (Quiet.pure (fun _ => by kernel_rfl)) ?_
  refine Sy.step (by kernel_rfl) (bv (l.getD 19 0)) (Quiet.cell 0 g0 19 39 5 (l.map bv).toArray _ _ rfl (by kernel_rfl) (by kernel_rfl) Tryd.underlying5 rfl _ (key_at l hl 19 (by decide))) ?_
  refine Sy.make (by kernel_rfl) 5 #[bv (l.getD 19 0)] (fun g => .slice (some ⟨g, 0, none⟩) 1 1) (fun _ => by kernel_rfl) (fun g21 => ?_)
  refine Sy.append (by kernel_rfl) 34 5 _ _ Tryd.underlying34 info_u8 rfl rfl rfl rfl _ _ rfl 2 q19 19 c19 ([bv (l.getD 0 0), bv (l.getD 1 0), bv (l.getD 2 0), bv (l.getD 3 0), bv (l.getD 4 0), bv (l.getD 5 0), bv (l.getD 6 0), bv (l.getD 7 0), bv (l.getD 8 0), bv (l.getD 9 0), bv (l.getD 10 0), bv (l.getD 11 0), bv (l.getD 12 0), bv (l.getD 13 0), bv (l.getD 14 0), bv (l.getD 15 0), bv (l.getD 16 0), bv (l.getD 17 0), bv (l.getD 18 0)] ++ s19).toArray [bv (l.getD 0 0), bv (l.getD 1 0), bv (l.getD 2 0), bv (l.getD 3 0), bv (l.getD 4 0), bv (l.getD 5 0), bv (l.getD 6 0), bv (l.getD 7 0), bv (l.getD 8 0), bv (l.getD 9 0), bv (l.getD 10 0), bv (l.getD 11 0), bv (l.getD 12 0), bv (l.getD 13 0), bv (l.getD 14 0), bv (l.getD 15 0), bv (l.getD 16 0), bv (l.getD 17 0), bv (l.getD 18 0)] (by kernel_rfl) (by kernel_rfl) (by kernel_rfl) rfl (by rw [← e19]; simp only [List.size_toArray, List.length_append, List.length_cons, List.length_nil]; omega) m19 3 g21 0 1 1 5 #[bv (l.getD 19 0)] [bv (l.getD 19 0)] (by kernel_rfl) (by kernel_rfl) (by kernel_rfl) rfl (by intro u hu; simp only [List.mem_cons, List.not_mem_nil, or_false] at hu; subst hu; rfl) (by decide) (fun q20 c20 s20 e20 m20 => ?_)
  refine Sy.step (by kernel_rfl) (.slice (some ⟨q20, 0, none⟩) 20 c20) (Quiet.pure (fun _ => by kernel_rfl)) ?_
  refine Sy.nil ?_
  refine Sy.in_ ?_
  refine Sy.then_ ?_
  refine Sy.region ?_
  refine Sy.step (by kernel_rfl) (.int .i64 19) (Quiet.pure (fun _ => by kernel_rfl)) ?_
  refine Sy.step (by kernel_rfl) (.int .i64 20) (Quiet.pure (fun _ => by kernel_rfl)) ?_
  refine Sy.step (by kernel_rfl) (.int .i64 20) (Quiet.pure (fun _ => by kernel_rfl)) ?_
  refine Sy.nil ?_
  refine Sy.again ?_
  refine Sy.tidyR (G := [(1, .pointer (some ⟨g0, 0, none⟩)), (2, .pointer (some ⟨g1, 0, none⟩)), (4, .slice (some ⟨q20, 0, none⟩) 20 c20), (5, .int .i64 20)]) (M := [(g0, 39, (l.map bv).toArray), (g1, 28, (pcs 0 0 false)), (q20, 5, ([bv (l.getD 0 0), bv (l.getD 1 0), bv (l.getD 2 0), bv (l.getD 3 0), bv (l.getD 4 0), bv (l.getD 5 0), bv (l.getD 6 0), bv (l.getD 7 0), bv (l.getD 8 0), bv (l.getD 9 0), bv (l.getD 10 0), bv (l.getD 11 0), bv (l.getD 12 0), bv (l.getD 13 0), bv (l.getD 14 0), bv (l.getD 15 0), bv (l.getD 16 0), bv (l.getD 17 0), bv (l.getD 18 0), bv (l.getD 19 0)] ++ s20).toArray)]) [true, true, true, false] (by kernel_rfl) (all_cons (by kernel_rfl) (all_cons (by kernel_rfl) (all_cons (by kernel_rfl) (all_cons (by kernel_rfl) all_nil)))) ?_
  refine Sy.round ?_
  refine Sy.seq ?_
  refine Sy.seq ?_
  refine Sy.region ?_
  refine Sy.step (by kernel_rfl) (.int .i64 20) (Quiet.pure (fun _ => by kernel_rfl)) ?_
  refine Sy.step (by kernel_rfl) (.bool true) (Quiet.pure (fun _ => by kernel_rfl)) ?_
  refine Sy.nil ?_
  refine Sy.then_ ?_
  refine Sy.cond_t (by kernel_rfl) (by kernel_rfl) ?_
  refine Sy.skip ?_
  refine Sy.then_ ?_
  refine Sy.seq ?_
  refine Sy.block ?_
  refine Sy.region ?_
  refine Sy.step (by kernel_rfl) (.slice (some ⟨q20, 0, none⟩) 20 c20) (Quiet.pure (fun _ => by kernel_rfl)) ?_
  refine Sy.step (by kernel_rfl) (.int .i64 20) (Quiet.pure (fun _ => by kernel_rfl)) ?_
  refine Sy.step (by kernel_rfl) (.pointer (some ⟨g0, 20, none⟩)) (Quiet.pure (fun _ => by kernel_rfl)) ?_
  refine Sy.step (by kernel_rfl) (bv (l.getD 20 0)) (Quiet.cell 0 g0 20 39 5 (l.map bv).toArray _ _ rfl (by kernel_rfl) (by kernel_rfl) Tryd.underlying5 rfl _ (key_at l hl 20 (by decide))) ?_
  refine Sy.make (by kernel_rfl) 5 #[bv (l.getD 20 0)] (fun g => .slice (some ⟨g, 0, none⟩) 1 1) (fun _ => by kernel_rfl) (fun g22 => ?_)
  refine Sy.append (by kernel_rfl) 34 5 _ _ Tryd.underlying34 info_u8 rfl rfl rfl rfl _ _ rfl 2 q20 20 c20 ([bv (l.getD 0 0), bv (l.getD 1 0), bv (l.getD 2 0), bv (l.getD 3 0), bv (l.getD 4 0), bv (l.getD 5 0), bv (l.getD 6 0), bv (l.getD 7 0), bv (l.getD 8 0), bv (l.getD 9 0), bv (l.getD 10 0), bv (l.getD 11 0), bv (l.getD 12 0), bv (l.getD 13 0), bv (l.getD 14 0), bv (l.getD 15 0), bv (l.getD 16 0), bv (l.getD 17 0), bv (l.getD 18 0), bv (l.getD 19 0)] ++ s20).toArray [bv (l.getD 0 0), bv (l.getD 1 0), bv (l.getD 2 0), bv (l.getD 3 0), bv (l.getD 4 0), bv (l.getD 5 0), bv (l.getD 6 0), bv (l.getD 7 0), bv (l.getD 8 0), bv (l.getD 9 0), bv (l.getD 10 0), bv (l.getD 11 0), bv (l.getD 12 0), bv (l.getD 13 0), bv (l.getD 14 0), bv (l.getD 15 0), bv (l.getD 16 0), bv (l.getD 17 0), bv (l.getD 18 0), bv (l.getD 19 0)] (by kernel_rfl) (by kernel_rfl) (by kernel_rfl) rfl (by rw [← e20]; simp only [List.size_toArray, List.length_append, List.length_cons, List.length_nil]; omega) m20 3 g22 0 1 1 5 #[bv (l.getD 20 0)] [bv (l.getD 20 0)] (by kernel_rfl) (by kernel_rfl) (by kernel_rfl) rfl (by intro u hu; simp only [List.mem_cons, List.not_mem_nil, or_false] at hu; subst hu; rfl) (by decide) (fun q21 c21 s21 e21 m21 => ?_)
  refine Sy.step (by kernel_rfl) (.slice (some ⟨q21, 0, none⟩) 21 c21) (Quiet.pure (fun _ => by kernel_rfl)) ?_
  refine Sy.nil ?_
  refine Sy.in_ ?_
  refine Sy.then_ ?_
  refine Sy.region ?_
  refine Sy.step (by kernel_rfl) (.int .i64 20) (Quiet.pure (fun _ => by kernel_rfl)) ?_
  refine Sy.step (by kernel_rfl) (.int .i64 21) (Quiet.pure (fun _ => by kernel_rfl)) ?_
  refine Sy.step (by kernel_rfl) (.int .i64 21) (Quiet.pure (fun _ => by kernel_rfl)) ?_
  refine Sy.nil ?_
  refine Sy.again ?_
  refine Sy.tidyR (G := [(1, .pointer (some ⟨g0, 0, none⟩)), (2, .pointer (some ⟨g1, 0, none⟩)), (4, .slice (some ⟨q21, 0, none⟩) 21 c21), (5, .int .i64 21)]) (M := [(g0, 39, (l.map bv).toArray), (g1, 28, (pcs 0 0 false)), (q21, 5, ([bv (l.getD 0 0), bv (l.getD 1 0), bv (l.getD 2 0), bv (l.getD 3 0), bv (l.getD 4 0), bv (l.getD 5 0), bv (l.getD 6 0), bv (l.getD 7 0), bv (l.getD 8 0), bv (l.getD 9 0), bv (l.getD 10 0), bv (l.getD 11 0), bv (l.getD 12 0), bv (l.getD 13 0), bv (l.getD 14 0), bv (l.getD 15 0), bv (l.getD 16 0), bv (l.getD 17 0), bv (l.getD 18 0), bv (l.getD 19 0), bv (l.getD 20 0)] ++ s21).toArray)]) [true, true, true, false] (by kernel_rfl) (all_cons (by kernel_rfl) (all_cons (by kernel_rfl) (all_cons (by kernel_rfl) (all_cons (by kernel_rfl) all_nil)))) ?_
  refine Sy.round ?_
  refine Sy.seq ?_
  refine Sy.seq ?_
  refine Sy.region ?_
  refine Sy.step (by kernel_rfl) (.int .i64 21) (Quiet.pure (fun _ => by kernel_rfl)) ?_
  refine Sy.step (by kernel_rfl) (.bool true) (Quiet.pure (fun _ => by kernel_rfl)) ?_
  refine Sy.nil ?_
  refine Sy.then_ ?_
  refine Sy.cond_t (by kernel_rfl) (by kernel_rfl) ?_
  refine Sy.skip ?_
  refine Sy.then_ ?_
  refine Sy.seq ?_
  refine Sy.block ?_
  refine Sy.region ?_
  refine Sy.step (by kernel_rfl) (.slice (some ⟨q21, 0, none⟩) 21 c21) (Quiet.pure (fun _ => by kernel_rfl)) ?_
  refine Sy.step (by kernel_rfl) (.int .i64 21) (Quiet.pure (fun _ => by kernel_rfl)) ?_
  refine Sy.step (by kernel_rfl) (.pointer (some ⟨g0, 21, none⟩)) (Quiet.pure (fun _ => by kernel_rfl)) ?_
  refine Sy.step (by kernel_rfl) (bv (l.getD 21 0)) (Quiet.cell 0 g0 21 39 5 (l.map bv).toArray _ _ rfl (by kernel_rfl) (by kernel_rfl) Tryd.underlying5 rfl _ (key_at l hl 21 (by decide))) ?_
  refine Sy.make (by kernel_rfl) 5 #[bv (l.getD 21 0)] (fun g => .slice (some ⟨g, 0, none⟩) 1 1) (fun _ => by kernel_rfl) (fun g23 => ?_)
  refine Sy.append (by kernel_rfl) 34 5 _ _ Tryd.underlying34 info_u8 rfl rfl rfl rfl _ _ rfl 2 q21 21 c21 ([bv (l.getD 0 0), bv (l.getD 1 0), bv (l.getD 2 0), bv (l.getD 3 0), bv (l.getD 4 0), bv (l.getD 5 0), bv (l.getD 6 0), bv (l.getD 7 0), bv (l.getD 8 0), bv (l.getD 9 0), bv (l.getD 10 0), bv (l.getD 11 0), bv (l.getD 12 0), bv (l.getD 13 0), bv (l.getD 14 0), bv (l.getD 15 0), bv (l.getD 16 0), bv (l.getD 17 0), bv (l.getD 18 0), bv (l.getD 19 0), bv (l.getD 20 0)] ++ s21).toArray [bv (l.getD 0 0), bv (l.getD 1 0), bv (l.getD 2 0), bv (l.getD 3 0), bv (l.getD 4 0), bv (l.getD 5 0), bv (l.getD 6 0), bv (l.getD 7 0), bv (l.getD 8 0), bv (l.getD 9 0), bv (l.getD 10 0), bv (l.getD 11 0), bv (l.getD 12 0), bv (l.getD 13 0), bv (l.getD 14 0), bv (l.getD 15 0), bv (l.getD 16 0), bv (l.getD 17 0), bv (l.getD 18 0), bv (l.getD 19 0), bv (l.getD 20 0)] (by kernel_rfl) (by kernel_rfl) (by kernel_rfl) rfl (by rw [← e21]; simp only [List.size_toArray, List.length_append, List.length_cons, List.length_nil]; omega) m21 3 g23 0 1 1 5 #[bv (l.getD 21 0)] [bv (l.getD 21 0)] (by kernel_rfl) (by kernel_rfl) (by kernel_rfl) rfl (by intro u hu; simp only [List.mem_cons, List.not_mem_nil, or_false] at hu; subst hu; rfl) (by decide) (fun q22 c22 s22 e22 m22 => ?_)
  refine Sy.step (by kernel_rfl) (.slice (some ⟨q22, 0, none⟩) 22 c22) (Quiet.pure (fun _ => by kernel_rfl)) ?_
  refine Sy.nil ?_
  refine Sy.in_ ?_
  refine Sy.then_ ?_
  refine Sy.region ?_
  refine Sy.step (by kernel_rfl) (.int .i64 21) (Quiet.pure (fun _ => by kernel_rfl)) ?_
  refine Sy.step (by kernel_rfl) (.int .i64 22) (Quiet.pure (fun _ => by kernel_rfl)) ?_
  refine Sy.step (by kernel_rfl) (.int .i64 22) (Quiet.pure (fun _ => by kernel_rfl)) ?_
  refine Sy.nil ?_
  refine Sy.again ?_
  refine Sy.tidyR (G := [(1, .pointer (some ⟨g0, 0, none⟩)), (2, .pointer (some ⟨g1, 0, none⟩)), (4, .slice (some ⟨q22, 0, none⟩) 22 c22), (5, .int .i64 22)]) (M := [(g0, 39, (l.map bv).toArray), (g1, 28, (pcs 0 0 false)), (q22, 5, ([bv (l.getD 0 0), bv (l.getD 1 0), bv (l.getD 2 0), bv (l.getD 3 0), bv (l.getD 4 0), bv (l.getD 5 0), bv (l.getD 6 0), bv (l.getD 7 0), bv (l.getD 8 0), bv (l.getD 9 0), bv (l.getD 10 0), bv (l.getD 11 0), bv (l.getD 12 0), bv (l.getD 13 0), bv (l.getD 14 0), bv (l.getD 15 0), bv (l.getD 16 0), bv (l.getD 17 0), bv (l.getD 18 0), bv (l.getD 19 0), bv (l.getD 20 0), bv (l.getD 21 0)] ++ s22).toArray)]) [true, true, true, false] (by kernel_rfl) (all_cons (by kernel_rfl) (all_cons (by kernel_rfl) (all_cons (by kernel_rfl) (all_cons (by kernel_rfl) all_nil)))) ?_
  refine Sy.round ?_
  refine Sy.seq ?_
  refine Sy.seq ?_
  refine Sy.region ?_
  refine Sy.step (by kernel_rfl) (.int .i64 22) (Quiet.pure (fun _ => by kernel_rfl)) ?_
  refine Sy.step (by kernel_rfl) (.bool true) (Quiet.pure (fun _ => by kernel_rfl)) ?_
  refine Sy.nil ?_
  refine Sy.then_ ?_
  refine Sy.cond_t (by kernel_rfl) (by kernel_rfl) ?_
  refine Sy.skip ?_
  refine Sy.then_ ?_
  refine Sy.seq ?_
  refine Sy.block ?_
  refine Sy.region ?_
  refine Sy.step (by kernel_rfl) (.slice (some ⟨q22, 0, none⟩) 22 c22) (Quiet.pure (fun _ => by kernel_rfl)) ?_
  refine Sy.step (by kernel_rfl) (.int .i64 22) (Quiet.pure (fun _ => by kernel_rfl)) ?_
  refine Sy.step (by kernel_rfl) (.pointer (some ⟨g0, 22, none⟩)) (Quiet.pure (fun _ => by kernel_rfl)) ?_
  refine Sy.step (by kernel_rfl) (bv (l.getD 22 0)) (Quiet.cell 0 g0 22 39 5 (l.map bv).toArray _ _ rfl (by kernel_rfl) (by kernel_rfl) Tryd.underlying5 rfl _ (key_at l hl 22 (by decide))) ?_
  refine Sy.make (by kernel_rfl) 5 #[bv (l.getD 22 0)] (fun g => .slice (some ⟨g, 0, none⟩) 1 1) (fun _ => by kernel_rfl) (fun g24 => ?_)
  refine Sy.append (by kernel_rfl) 34 5 _ _ Tryd.underlying34 info_u8 rfl rfl rfl rfl _ _ rfl 2 q22 22 c22 ([bv (l.getD 0 0), bv (l.getD 1 0), bv (l.getD 2 0), bv (l.getD 3 0), bv (l.getD 4 0), bv (l.getD 5 0), bv (l.getD 6 0), bv (l.getD 7 0), bv (l.getD 8 0), bv (l.getD 9 0), bv (l.getD 10 0), bv (l.getD 11 0), bv (l.getD 12 0), bv (l.getD 13 0), bv (l.getD 14 0), bv (l.getD 15 0), bv (l.getD 16 0), bv (l.getD 17 0), bv (l.getD 18 0), bv (l.getD 19 0), bv (l.getD 20 0), bv (l.getD 21 0)] ++ s22).toArray [bv (l.getD 0 0), bv (l.getD 1 0), bv (l.getD 2 0), bv (l.getD 3 0), bv (l.getD 4 0), bv (l.getD 5 0), bv (l.getD 6 0), bv (l.getD 7 0), bv (l.getD 8 0), bv (l.getD 9 0), bv (l.getD 10 0), bv (l.getD 11 0), bv (l.getD 12 0), bv (l.getD 13 0), bv (l.getD 14 0), bv (l.getD 15 0), bv (l.getD 16 0), bv (l.getD 17 0), bv (l.getD 18 0), bv (l.getD 19 0), bv (l.getD 20 0), bv (l.getD 21 0)] (by kernel_rfl) (by kernel_rfl) (by kernel_rfl) rfl (by rw [← e22]; simp only [List.size_toArray, List.length_append, List.length_cons, List.length_nil]; omega) m22 3 g24 0 1 1 5 #[bv (l.getD 22 0)] [bv (l.getD 22 0)] (by kernel_rfl) (by kernel_rfl) (by kernel_rfl) rfl (by intro u hu; simp only [List.mem_cons, List.not_mem_nil, or_false] at hu; subst hu; rfl) (by decide) (fun q23 c23 s23 e23 m23 => ?_)
  refine Sy.step (by kernel_rfl) (.slice (some ⟨q23, 0, none⟩) 23 c23) (Quiet.pure (fun _ => by kernel_rfl)) ?_
  refine Sy.nil ?_
  refine Sy.in_ ?_
  refine Sy.then_ ?_
  refine Sy.region ?_
  refine Sy.step (by kernel_rfl) (.int .i64 22) (Quiet.pure (fun _ => by kernel_rfl)) ?_
  refine Sy.step (by kernel_rfl) (.int .i64 23) (Quiet.pure (fun _ => by kernel_rfl)) ?_
  refine Sy.step (by kernel_rfl) (.int .i64 23) (Quiet.pure (fun _ => by kernel_rfl)) ?_
  refine Sy.nil ?_
  refine Sy.again ?_
  refine Sy.tidyR (G := [(1, .pointer (some ⟨g0, 0, none⟩)), (2, .pointer (some ⟨g1, 0, none⟩)), (4, .slice (some ⟨q23, 0, none⟩) 23 c23), (5, .int .i64 23)]) (M := [(g0, 39, (l.map bv).toArray), (g1, 28, (pcs 0 0 false)), (q23, 5, ([bv (l.getD 0 0), bv (l.getD 1 0), bv (l.getD 2 0), bv (l.getD 3 0), bv (l.getD 4 0), bv (l.getD 5 0), bv (l.getD 6 0), bv (l.getD 7 0), bv (l.getD 8 0), bv (l.getD 9 0), bv (l.getD 10 0), bv (l.getD 11 0), bv (l.getD 12 0), bv (l.getD 13 0), bv (l.getD 14 0), bv (l.getD 15 0), bv (l.getD 16 0), bv (l.getD 17 0), bv (l.getD 18 0), bv (l.getD 19 0), bv (l.getD 20 0), bv (l.getD 21 0), bv (l.getD 22 0)] ++ s23).toArray)]) [true, true, true, false] (by kernel_rfl) (all_cons (by kernel_rfl) (all_cons (by kernel_rfl) (all_cons (by kernel_rfl) (all_cons (by kernel_rfl) all_nil)))) ?_
  refine Sy.round ?_
  refine Sy.seq ?_
  refine Sy.seq ?_
  refine Sy.region ?_
  refine Sy.step (by kernel_rfl) (.int .i64 23) (Quiet.pure (fun _ => by kernel_rfl)) ?_
  refine Sy.step (by kernel_rfl) (.bool true) (Quiet.pure (fun _ => by kernel_rfl)) ?_
  refine Sy.nil ?_
  refine Sy.then_ ?_
  refine Sy.cond_t (by kernel_rfl) (by kernel_rfl) ?_
  refine Sy.skip ?_
  refine Sy.then_ ?_
  refine Sy.seq ?_
  refine Sy.block ?_
  refine Sy.region ?_
  refine Sy.step (by kernel_rfl) (.slice (some ⟨q23, 0, none⟩) 23 c23) (Quiet.pure (fun _ => by kernel_rfl)) ?_
  refine Sy.step (by kernel_rfl) (.int .i64 23) (Quiet.pure (fun _ => by kernel_rfl)) ?_
  refine Sy.step (by kernel_rfl) (.pointer (some ⟨g0, 23, none⟩)) (Quiet.pure (fun _ => by kernel_rfl)) ?_
  refine Sy.step (by kernel_rfl) (bv (l.getD 23 0)) (Quiet.cell 0 g0 23 39 5 (l.map bv).toArray _ _ rfl (by kernel_rfl) (by kernel_rfl) Tryd.underlying5 rfl _ (key_at l hl 23 (by decide))) ?_
  refine Sy.make (by kernel_rfl) 5 #[bv (l.getD 23 0)] (fun g => .slice (some ⟨g, 0, none⟩) 1 1) (fun _ => by kernel_rfl) (fun g25 => ?_)
  refine Sy.append (by kernel_rfl) 34 5 _ _ Tryd.underlying34 info_u8 rfl rfl rfl rfl _ _ rfl 2 q23 23 c23 ([bv (l.getD 0 0), bv (l.getD 1 0), bv (l.getD 2 0), bv (l.getD 3 0), bv (l.getD 4 0), bv (l.getD 5 0), bv (l.getD 6 0), bv (l.getD 7 0), bv (l.getD 8 0), bv (l.getD 9 0), bv (l.getD 10 0), bv (l.getD 11 0), bv (l.getD 12 0), bv (l.getD 13 0), bv (l.getD 14 0), bv (l.getD 15 0), bv (l.getD 16 0), bv (l.getD 17 0), bv (l.getD 18 0), bv (l.getD 19 0), bv (l.getD 20 0), bv (l.getD 21 0), bv (l.getD 22 0)] ++ s23).toArray [bv (l.getD 0 0), bv (l.getD 1 0), bv (l.getD 2 0), bv (l.getD 3 0), bv (l.getD 4 0), bv (l.getD 5 0), bv (l.getD 6 0), bv (l.getD 7 0), bv (l.getD 8 0), bv (l.getD 9 0), bv (l.getD 10 0), bv (l.getD 11 0), bv (l.getD 12 0), bv (l.getD 13 0), bv (l.getD 14 0), bv (l.getD 15 0), bv (l.getD 16 0), bv (l.getD 17 0), bv (l.getD 18 0), bv (l.getD 19 0), bv (l.getD 20 0), bv (l.getD 21 0), bv (l.getD 22 0)] (by kernel_rfl) (by kernel_rfl) (by kernel_rfl) rfl (by rw [← e23]; simp only [List.size_toArray, List.length_append, List.length_cons, List.length_nil]; omega) m23 3 g25 0 1 1 5 #[bv (l.getD 23 0)] [bv (l.getD 23 0)] (by kernel_rfl) (by kernel_rfl) (by kernel_rfl) rfl (by intro u hu; simp only [List.mem_cons, List.not_mem_nil, or_false] at hu; subst hu; rfl) (by decide) (fun q24 c24 s24 e24 m24 => ?_)
  refine Sy.step (by kernel_rfl) (.slice (some ⟨q24, 0, none⟩) 24 c24) (Quiet.pure (fun _ => by kernel_rfl)) ?_
  refine Sy.nil ?_
  refine Sy.in_ ?_
  refine Sy.then_ ?_
  refine Sy.region ?_
  refine Sy.step (by kernel_rfl) (.int .i64 23) (Quiet.pure (fun _ => by kernel_rfl)) ?_
  refine Sy.step (by kernel_rfl) (.int .i64 24) (Quiet.pure (fun _ => by kernel_rfl)) ?_
  refine Sy.step (by kernel_rfl) (.int .i64 24) (Quiet.pure (fun _ => by kernel_rfl)) ?_
  refine Sy.nil ?_
  refine Sy.again ?_
  refine Sy.tidyR (G := [(1, .pointer (some ⟨g0, 0, none⟩)), (2, .pointer (some ⟨g1, 0, none⟩)), (4, .slice (some ⟨q24, 0, none⟩) 24 c24), (5, .int .i64 24)]) (M := [(g0, 39, (l.map bv).toArray), (g1, 28, (pcs 0 0 false)), (q24, 5, ([bv (l.getD 0 0), bv (l.getD 1 0), bv (l.getD 2 0), bv (l.getD 3 0), bv (l.getD 4 0), bv (l.getD 5 0), bv (l.getD 6 0), bv (l.getD 7 0), bv (l.getD 8 0), bv (l.getD 9 0), bv (l.getD 10 0), bv (l.getD 11 0), bv (l.getD 12 0), bv (l.getD 13 0), bv (l.getD 14 0), bv (l.getD 15 0), bv (l.getD 16 0), bv (l.getD 17 0), bv (l.getD 18 0), bv (l.getD 19 0), bv (l.getD 20 0), bv (l.getD 21 0), bv (l.getD 22 0), bv (l.getD 23 0)] ++ s24).toArray)]) [true, true, true, false] (by kernel_rfl) (all_cons (by kernel_rfl) (all_cons (by kernel_rfl) (all_cons (by kernel_rfl) (all_cons (by kernel_rfl) all_nil)))) ?_
  refine Sy.round ?_
  refine Sy.seq ?_
  refine Sy.seq ?_
  refine Sy.region ?_
  refine Sy.step (by kernel_rfl) (.int .i64 24) (Quiet.pure (fun _ => by kernel_rfl)) ?_
  refine Sy.step (by kernel_rfl) (.bool true) (Quiet.pure (fun _ => by kernel_rfl)) ?_
  refine Sy.nil ?_
  refine Sy.then_ ?_
  refine Sy.cond_t (by kernel_rfl) (by kernel_rfl) ?_
  refine Sy.skip ?_
  refine Sy.then_ ?_
  refine Sy.seq ?_
  refine Sy.block ?_
  refine Sy.region ?_
  refine Sy.step (by kernel_rfl) (.slice (some ⟨q24, 0, none⟩) 24 c24) (Quiet.pure (fun _ => by kernel_rfl)) ?_
  refine Sy.step (by kernel_rfl) (.int .i64 24) (Quiet.pure (fun _ => by kernel_rfl)) ?_
  refine Sy.step (by kernel_rfl) (.pointer (some ⟨g0, 24, none⟩)) (Quiet.pure (fun _ => by kernel_rfl)) ?_
  refine Sy.step (by kernel_rfl) (bv (l.getD 24 0)) (Quiet.cell 0 g0 24 39 5 (l.map bv).toArray _ _ rfl (by kernel_rfl) (by kernel_rfl) Tryd.underlying5 rfl _ (key_at l hl 24 (by decide))) ?_
  refine Sy.make (by kernel_rfl) 5 #[bv (l.getD 24 0)] (fun g => .slice (some ⟨g, 0, none⟩) 1 1) (fun _ => by kernel_rfl) (fun g26 => ?_)
  refine Sy.append (by kernel_rfl) 34 5 _ _ Tryd.underlying34 info_u8 rfl rfl rfl rfl _ _ rfl 2 q24 24 c24 ([bv (l.getD 0 0), bv (l.getD 1 0), bv (l.getD 2 0), bv (l.getD 3 0), bv (l.getD 4 0), bv (l.getD 5 0), bv (l.getD 6 0), bv (l.getD 7 0), bv (l.getD 8 0), bv (l.getD 9 0), bv (l.getD 10 0), bv (l.getD 11 0), bv (l.getD 12 0), bv (l.getD 13 0), bv (l.getD 14 0), bv (l.getD 15 0), bv (l.getD 16 0), bv (l.getD 17 0), bv (l.getD 18 0), bv (l.getD 19 0), bv (l.getD 20 0), bv (l.getD 21 0), bv (l.getD 22 0), bv (l.getD 23 0)] ++ s24).toArray [bv (l.getD 0 0), bv (l.getD 1 0), bv (l.getD 2 0), bv (l.getD 3 0), bv (l.getD 4 0), bv (l.getD 5 0), bv (l.getD 6 0), bv (l.getD 7 0), bv (l.getD 8 0), bv (l.getD 9 0), bv (l.getD 10 0), bv (l.getD 11 0), bv (l.getD 12 0), bv (l.getD 13 0), bv (l.getD 14 0), bv (l.getD 15 0), bv (l.getD 16 0), bv (l.getD 17 0), bv (l.getD 18 0), bv (l.getD 19 0), bv (l.getD 20 0), bv (l.getD 21 0), bv (l.getD 22 0), bv (l.getD 23 0)] (by kernel_rfl) (by kernel_rfl) (by kernel_rfl) rfl (by rw [← e24]; simp only [List.size_toArray, List.length_append, List.length_cons, List.length_nil]; omega) m24 3 g26 0 1 1 5 #[bv (l.getD 24 0)] [bv (l.getD 24 0)] (by kernel_rfl) (by kernel_rfl) (by kernel_rfl) rfl (by intro u hu; simp only [List.mem_cons, List.not_mem_nil, or_false] at hu; subst hu; rfl) (by decide) (fun q25 c25 s25 e25 m25 => ?_)
  refine Sy.step (by kernel_rfl) (.slice (some ⟨q25, 0, none⟩) 25 c25) (Quiet.pure (fun _ => by kernel_rfl)) ?_
  refine Sy.nil ?_
  refine Sy.in_ ?_
  refine Sy.then_ ?_
  refine Sy.region ?_
  refine Sy.step (by kernel_rfl) (.int .i64 24) (Quiet.pure (fun _ => by kernel_rfl)) ?_
  refine Sy.step (by kernel_rfl) (.int .i64 25) (Quiet.pure (fun _ => by kernel_rfl)) ?_
  refine Sy.step (by kernel_rfl) (.int .i64 25) (Quiet.pure (fun _ => by kernel_rfl)) ?_
  refine Sy.nil ?_
  refine Sy.again ?_
  refine Sy.tidyR (G := [(1, .pointer (some ⟨g0, 0, none⟩)), (2, .pointer (some ⟨g1, 0, none⟩)), (4, .slice (some ⟨q25, 0, none⟩) 25 c25), (5, .int .i64 25)]) (M := [(g0, 39, (l.map bv).toArray), (g1, 28, (pcs 0 0 false)), (q25, 5, ([bv (l.getD 0 0), bv (l.getD 1 0), bv (l.getD 2 0), bv (l.getD 3 0), bv (l.getD 4 0), bv (l.getD 5 0), bv (l.getD 6 0), bv (l.getD 7 0), bv (l.getD 8 0), bv (l.getD 9 0), bv (l.getD 10 0), bv (l.getD 11 0), bv (l.getD 12 0), bv (l.getD 13 0), bv (l.getD 14 0), bv (l.getD 15 0), bv (l.getD 16 0), bv (l.getD 17 0), bv (l.getD 18 0), bv (l.getD 19 0), bv (l.getD 20 0), bv (l.getD 21 0), bv (l.getD 22 0), bv (l.getD 23 0), bv (l.getD 24 0)] ++ s25).toArray)]) [true, true, true, false] (by kernel_rfl) (all_cons (by kernel_rfl) (all_cons (by kernel_rfl) (all_cons (by kernel_rfl) (all_cons (by kernel_rfl) all_nil)))) ?_
  refine Sy.round ?_
  refine Sy.seq ?_
  refine Sy.seq ?_
  refine Sy.region ?_
  refine Sy.step (by kernel_rfl) (.int .i64 25) (Quiet.pure (fun _ => by kernel_rfl)) ?_
  refine Sy.step (by kernel_rfl) (.bool true) (Quiet.pure (fun _ => by kernel_rfl)) ?_
  refine Sy.nil ?_
  refine Sy.then_ ?_
  refine Sy.cond_t (by kernel_rfl) (by kernel_rfl) ?_
  refine Sy.skip ?_
  refine Sy.then_ ?_
  refine Sy.seq ?_
  refine Sy.block ?_
  refine Sy.region ?_
  refine Sy.step (by kernel_rfl) (.slice (some ⟨q25, 0, none⟩) 25 c25) (Quiet.pure (fun _ => by kernel_rfl)) ?_
  refine Sy.step (by kernel_rfl) (.int .i64 25) (Quiet.pure (fun _ => by kernel_rfl)) ?_
  refine Sy.step (by kernel_rfl) (.pointer (some ⟨g0, 25, none⟩)) (Quiet.pure (fun _ => by kernel_rfl)) ?_
  refine Sy.step (by kernel_rfl) (bv (l.getD 25 0)) (Quiet.cell 0 g0 25 39 5 (l.map bv).toArray _ _ rfl (by kernel_rfl) (by kernel_rfl) Tryd.underlying5 rfl _ (key_at l hl 25 (by decide))) ?_
  refine Sy.make (by kernel_rfl) 5 #[bv (l.getD 25 0)] (fun g => .slice (some ⟨g, 0, none⟩) 1 1) (fun _ => by kernel_rfl) (fun g27 => ?_)
  refine Sy.append (by kernel_rfl) 34 5 _ _ Tryd.underlying34 info_u8 rfl rfl rfl rfl _ _ rfl 2 q25 25 c25 ([bv (l.getD 0 0), bv (l.getD 1 0), bv (l.getD 2 0), bv (l.getD 3 0), bv (l.getD 4 0), bv (l.getD 5 0), bv (l.getD 6 0), bv (l.getD 7 0), bv (l.getD 8 0), bv (l.getD 9 0), bv (l.getD 10 0), bv (l.getD 11 0), bv (l.getD 12 0), bv (l.getD 13 0), bv (l.getD 14 0), bv (l.getD 15 0), bv (l.getD 16 0), bv (l.getD 17 0), bv (l.getD 18 0), bv (l.getD 19 0), bv (l.getD 20 0), bv (l.getD 21 0), bv (l.getD 22 0), bv (l.getD 23 0), bv (l.getD 24 0)] ++ s25).toArray [bv (l.getD 0 0), bv (l.getD 1 0), bv (l.getD 2 0), bv (l.getD 3 0), bv (l.getD 4 0), bv (l.getD 5 0), bv (l.getD 6 0), bv (l.getD 7 0), bv (l.getD 8 0), bv (l.getD 9 0), bv (l.getD 10 0), bv (l.getD 11 0), bv (l.getD 12 0), bv (l.getD 13 0), bv (l.getD 14 0), bv (l.getD 15 0), bv (l.getD 16 0), bv (l.getD 17 0), bv (l.getD 18 0), bv (l.getD 19 0), bv (l.getD 20 0), bv (l.getD 21 0), bv (l.getD 22 0), bv (l.getD 23 0), bv (l.getD 24 0)] (by kernel_rfl) (by kernel_rfl) (by kernel_rfl) rfl (by rw [← e25]; simp only [List.size_toArray, List.length_append, List.length_cons, List.length_nil]; omega) m25 3 g27 0 1 1 5 #[bv (l.getD 25 0)] [bv (l.getD 25 0)] (by kernel_rfl) (by kernel_rfl) (by kernel_rfl) rfl (by intro u hu; simp only [List.mem_cons, List.not_mem_nil, or_false] at hu; subst hu; rfl) (by decide) (fun q26 c26 s26 e26 m26 => ?_)
  refine Sy.step (by kernel_rfl) (.slice (some ⟨q26, 0, none⟩) 26 c26) (Quiet.pure (fun _ => by kernel_rfl)) ?_
  refine Sy.nil ?_
  refine Sy.in_ ?_
  refine Sy.then_ ?_
  refine Sy.region ?_
  refine Sy.step (by kernel_rfl) (.int .i64 25) (Quiet.pure (fun _ => by kernel_rfl)) ?_
  refine Sy.step (by kernel_rfl) (.int .i64 26) (Quiet.pure (fun _ => by kernel_rfl)) ?_
  refine Sy.step (by kernel_rfl) (.int .i64 26) (Quiet.pure (fun _ => by kernel_rfl)) ?_
  refine Sy.nil ?_
  refine Sy.again ?_
  refine Sy.tidyR (G := [(1, .pointer (some ⟨g0, 0, none⟩)), (2, .pointer (some ⟨g1, 0, none⟩)), (4, .slice (some ⟨q26, 0, none⟩) 26 c26), (5, .int .i64 26)]) (M := [(g0, 39, (l.map bv).toArray), (g1, 28, (pcs 0 0 false)), (q26, 5, ([bv (l.getD 0 0), bv (l.getD 1 0), bv (l.getD 2 0), bv (l.getD 3 0), bv (l.getD 4 0), bv (l.getD 5 0), bv (l.getD 6 0), bv (l.getD 7 0), bv (l.getD 8 0), bv (l.getD 9 0), bv (l.getD 10 0), bv (l.getD 11 0), bv (l.getD 12 0), bv (l.getD 13 0), bv (l.getD 14 0), bv (l.getD 15 0), bv (l.getD 16 0), bv (l.getD 17 0), bv (l.getD 18 0), bv (l.getD 19 0), bv (l.getD 20 0), bv (l.getD 21 0), bv (l.getD 22 0), bv (l.getD 23 0), bv (l.getD 24 0), bv (l.getD 25 0)] ++ s26).toArray)]) [true, true, true, false] (by kernel_rfl) (all_cons (by kernel_rfl) (all_cons (by kernel_rfl) (all_cons (by kernel_rfl) (all_cons (by kernel_rfl) all_nil)))) ?_
  refine Sy.round ?_
  refine Sy.seq ?_
  refine Sy.seq ?_
  refine Sy.region ?_
  refine Sy.step (by kernel_rfl) (.int .i64 26) (Quiet.pure (fun _ => by kernel_rfl)) ?_
  refine Sy.step (by kernel_rfl) (.bool true) (Quiet.pure (fun _ => by kernel_rfl)) ?_
  refine Sy.nil ?_
  refine Sy.then_ ?_
  refine Sy.cond_t (by kernel_rfl) (by kernel_rfl) ?_
  refine Sy.skip ?_
  refine Sy.then_ ?_
  refine Sy.seq ?_
  refine Sy.block ?_
  refine Sy.region ?_
  refine Sy.step (by kernel_rfl) (.slice (some ⟨q26, 0, none⟩) 26 c26) (Quiet.pure (fun _ => by kernel_rfl)) ?_
  refine Sy.step (by kernel_rfl) (.int .i64 26) (Quiet.pure (fun _ => by kernel_rfl)) ?_
  refine Sy.step (by kernel_rfl) (.pointer (some ⟨g0, 26, none⟩)) (Quiet.pure (fun _ => by kernel_rfl)) ?_
  refine Sy.step (by kernel_rfl) (bv (l.getD 26 0)) (Quiet.cell 0 g0 26 39 5 (l.map bv).toArray _ _ rfl (by kernel_rfl) (by kernel_rfl) Tryd.underlying5 rfl _ (key_at l hl 26 (by decide))) ?_
  refine Sy.make (by kernel_rfl) 5 #[bv (l.getD 26 0)] (fun g => .slice (some ⟨g, 0, none⟩) 1 1) (fun _ => by kernel_rfl) (fun g28 => ?_)
  refine Sy.append (by kernel_rfl) 34 5 _ _ Tryd.underlying34 info_u8 rfl rfl rfl rfl _ _ rfl 2 q26 26 c26 ([bv (l.getD 0 0), bv (l.getD 1 0), bv (l.getD 2 0), bv (l.getD 3 0), bv (l.getD 4 0), bv (l.getD 5 0), bv (l.getD 6 0), bv (l.getD 7 0), bv (l.getD 8 0), bv (l.getD 9 0), bv (l.getD 10 0), bv (l.getD 11 0), bv (l.getD 12 0), bv (l.getD 13 0), bv (l.getD 14 0), bv (l.getD 15 0), bv (l.getD 16 0), bv (l.getD 17 0), bv (l.getD 18 0), bv (l.getD 19 0), bv (l.getD 20 0), bv (l.getD 21 0), bv (l.getD 22 0), bv (l.getD 23 0), bv (l.getD 24 0), bv (l.getD 25 0)] ++ s26).toArray [bv (l.getD 0 0), bv (l.getD 1 0), bv (l.getD 2 0), bv (l.getD 3 0), bv (l.getD 4 0), bv (l.getD 5 0), bv (l.getD 6 0), bv (l.getD 7 0), bv (l.getD 8 0), bv (l.getD 9 0), bv (l.getD 10 0), bv (l.getD 11 0), bv (l.getD 12 0), bv (l.getD 13 0), bv (l.getD 14 0), bv (l.getD 15 0), bv (l.getD 16 0), bv (l.getD 17 0), bv (l.getD 18 0), bv (l.getD 19 0), bv (l.getD 20 0), bv (l.getD 21 0), bv (l.getD 22 0), bv (l.getD 23 0), bv (l.getD 24 0), bv (l.getD 25 0)] (by kernel_rfl) (by kernel_rfl) (by kernel_rfl) rfl (by rw [← e26]; simp only [List.size_toArray, List.length_append, List.length_cons, List.length_nil]; omega) m26 3 g28 0 1 1 5 #[bv (l.getD 26 0)] [bv (l.getD 26 0)] (by kernel_rfl) (by kernel_rfl) (by kernel_rfl) rfl (by intro u hu; simp only [List.mem_cons, List.not_mem_nil, or_false] at hu; subst hu; rfl) (by decide) (fun q27 c27 s27 e27 m27 => ?_)
  refine Sy.step (by kernel_rfl) (.slice (some ⟨q27, 0, none⟩) 27 c27) (Quiet.pure (fun _ => by kernel_rfl)) ?_
  refine Sy.nil ?_
  refine Sy.in_ ?_
  refine Sy.then_ ?_
  refine Sy.region ?_
  refine Sy.step (by kernel_rfl) (.int .i64 26) (Quiet.pure (fun _ => by kernel_rfl)) ?_
  refine Sy.step (by kernel_rfl) (.int .i64 27) (Quiet.pure (fun _ => by kernel_rfl)) ?_
  refine Sy.step (by kernel_rfl) (.int .i64 27) (Quiet.pure (fun _ => by kernel_rfl)) ?_
  refine Sy.nil ?_
  refine Sy.again ?_
  refine Sy.tidyR (G := [(1, .pointer (some ⟨g0, 0, none⟩)), (2, .pointer (some ⟨g1, 0, none⟩)), (4, .slice (some ⟨q27, 0, none⟩) 27 c27), (5, .int .i64 27)]) (M := [(g0, 39, (l.map bv).toArray), (g1, 28, (pcs 0 0 false)), (q27, 5, ([bv (l.getD 0 0), bv (l.getD 1 0), bv (l.getD 2 0), bv (l.getD 3 0), bv (l.getD 4 0), bv (l.getD 5 0), bv (l.getD 6 0), bv (l.getD 7 0), bv (l.getD 8 0), bv (l.getD 9 0), bv (l.getD 10 0), bv (l.getD 11 0), bv (l.getD 12 0), bv (l.getD 13 0), bv (l.getD 14 0), bv (l.getD 15 0), bv (l.getD 16 0), bv (l.getD 17 0), bv (l.getD 18 0), bv (l.getD 19 0), bv (l.getD 20 0), bv (l.getD 21 0), bv (l.getD 22 0), bv (l.getD 23 0), bv (l.getD 24 0), bv (l.getD 25 0), bv (l.getD 26 0)] ++ s27).toArray)]) [true, true, true, false] (by kernel_rfl) (all_cons (by kernel_rfl) (all_cons (by kernel_rfl) (all_cons (by kernel_rfl) (all_cons (by kernel_rfl) all_nil)))) ?_
  refine Sy.round ?_
  refine Sy.seq ?_
  refine Sy.seq ?_
  refine Sy.region ?_
  refine Sy.step (by kernel_rfl) (.int .i64 27) (Quiet.pure (fun _ => by kernel_rfl)) ?_
  refine Sy.step (by kernel_rfl) (.bool true) (Quiet.pure (fun _ => by kernel_rfl)) ?_
  refine Sy.nil ?_
  refine Sy.then_ ?_
  refine Sy.cond_t (by kernel_rfl) (by kernel_rfl) ?_
  refine Sy.skip ?_
  refine Sy.then_ ?_
  refine Sy.seq ?_
  refine Sy.block ?_
  refine Sy.region ?_
  refine Sy.step (by kernel_rfl) (.slice (some ⟨q27, 0, none⟩) 27 c27) (Quiet.pure (fun _ => by kernel_rfl)) ?_
  refine Sy.step (by kernel_rfl) (.int .i64 27) (Quiet.pure (fun _ => by kernel_rfl)) ?_
  refine Sy.step (by kernel_rfl) (.pointer (some ⟨g0, 27, none⟩)) (Quiet.pure (fun _ => by kernel_rfl)) ?_
  refine Sy.step (by kernel_rfl) (bv (l.getD 27 0)) (Quiet.cell 0 g0 27 39 5 (l.map bv).toArray _ _ rfl (by kernel_rfl) (by kernel_rfl) Tryd.underlying5 rfl _ (key_at l hl 27 (by decide))) ?_
  refine Sy.make (by kernel_rfl) 5 #[bv (l.getD 27 0)] (fun g => .slice (some ⟨g, 0, none⟩) 1 1) (fun _ => by kernel_rfl) (fun g29 => ?_)
  refine Sy.append (by kernel_rfl) 34 5 _ _ Tryd.underlying34 info_u8 rfl rfl rfl rfl _ _ rfl 2 q27 27 c27 ([bv (l.getD 0 0), bv (l.getD 1 0), bv (l.getD 2 0), bv (l.getD 3 0), bv (l.getD 4 0), bv (l.getD 5 0), bv (l.getD 6 0), bv (l.getD 7 0), bv (l.getD 8 0), bv (l.getD 9 0), bv (l.getD 10 0), bv (l.getD 11 0), bv (l.getD 12 0), bv (l.getD 13 0), bv (l.getD 14 0), bv (l.getD 15 0), bv (l.getD 16 0), bv (l.getD 17 0), bv (l.getD 18 0), bv (l.getD 19 0), bv (l.getD 20 0), bv (l.getD 21 0), bv (l.getD 22 0), bv (l.getD 23 0), bv (l.getD 24 0), bv (l.getD 25 0), bv (l.getD 26 0)] ++ s27).toArray [bv (l.getD 0 0), bv (l.getD 1 0), bv (l.getD 2 0), bv (l.getD 3 0), bv (l.getD 4 0), bv (l.getD 5 0), bv (l.getD 6 0), bv (l.getD 7 0), bv (l.getD 8 0), bv (l.getD 9 0), bv (l.getD 10 0), bv (l.getD 11 0), bv (l.getD 12 0), bv (l.getD 13 0), bv (l.getD 14 0), bv (l.getD 15 0), bv (l.getD 16 0), bv (l.getD 17 0), bv (l.getD 18 0), bv (l.getD 19 0), bv (l.getD 20 0), bv (l.getD 21 0), bv (l.getD 22 0), bv (l.getD 23 0), bv (l.getD 24 0), bv (l.getD 25 0), bv (l.getD 26 0)] (by kernel_rfl) (by kernel_rfl) (by kernel_rfl) rfl (by rw [← e27]; simp only [List.size_toArray, List.length_append, List.length_cons, List.length_nil]; omega) m27 3 g29 0 1 1 5 #[bv (l.getD 27 0)] [bv (l.getD 27 0)] (by kernel_rfl) (by kernel_rfl) (by kernel_rfl) rfl (by intro u hu; simp only [List.mem_cons, List.not_mem_nil, or_false] at hu; subst hu; rfl) (by decide) (fun q28 c28 s28 e28 m28 => ?_)
  refine Sy.step (by kernel_rfl) (.slice (some ⟨q28, 0, none⟩) 28 c28) (Quiet.pure (fun _ => by kernel_rfl)) ?_
  refine Sy.nil ?_
  refine Sy.in_ ?_
  refine Sy.then_ ?_
  refine Sy.region ?_
  refine Sy.step (by kernel_rfl) (.int .i64 27) (Quiet.pure (fun _ => by kernel_rfl)) ?_
  refine Sy.step (by kernel_rfl) (.int .i64 28) (Quiet.pure (fun _ => by kernel_rfl)) ?_
  refine Sy.step (by kernel_rfl) (.int .i64 28) (Quiet.pure (fun _ => by kernel_rfl)) ?_
  refine Sy.nil ?_
  refine Sy.again ?_
  refine Sy.tidyR (G := [(1, .pointer (some ⟨g0, 0, none⟩)), (2, .pointer (some ⟨g1, 0, none⟩)), (4, .slice (some ⟨q28, 0, none⟩) 28 c28), (5, .int .i64 28)]) (M := [(g0, 39, (l.map bv).toArray), (g1, 28, (pcs 0 0 false)), (q28, 5, ([bv (l.getD 0 0), bv (l.getD 1 0), bv (l.getD 2 0), bv (l.getD 3 0), bv (l.getD 4 0), bv (l.getD 5 0), bv (l.getD 6 0), bv (l.getD 7 0), bv (l.getD 8 0), bv (l.getD 9 0), bv (l.getD 10 0), bv (l.getD 11 0), bv (l.getD 12 0), bv (l.getD 13 0), bv (l.getD 14 0), bv (l.getD 15 0), bv (l.getD 16 0), bv (l.getD 17 0), bv (l.getD 18 0), bv (l.getD 19 0), bv (l.getD 20 0), bv (l.getD 21 0), bv (l.getD 22 0), bv (l.getD 23 0), bv (l.getD 24 0), bv (l.getD 25 0), bv (l.getD 26 0), bv (l.getD 27 0)] ++ s28).toArray)]) [true, true, true, false] (by kernel_rfl) (all_cons (by kernel_rfl) (all_cons (by kernel_rfl) (all_cons (by kernel_rfl) (all_cons (by kernel_rfl) all_nil)))) ?_
  refine Sy.round ?_
  refine Sy.seq ?_
  refine Sy.seq ?_
  refine Sy.region ?_
  refine Sy.step (by kernel_rfl) (.int .i64 28) (Quiet.pure (fun _ => by kernel_rfl)) ?_
  refine Sy.step (by kernel_rfl) (.bool true) (Quiet.pure (fun _ => by kernel_rfl)) ?_
  refine Sy.nil ?_
  refine Sy.then_ ?_
  refine Sy.cond_t (by kernel_rfl) (by kernel_rfl) ?_
  refine Sy.skip ?_
  refine Sy.then_ ?_
  refine Sy.seq ?_
  refine Sy.block ?_
  refine Sy.region ?_
  refine Sy.step (by kernel_rfl) (.slice (some ⟨q28, 0, none⟩) 28 c28) (Quiet.pure (fun _ => by kernel_rfl)) ?_
  refine Sy.step (by kernel_rfl) (.int .i64 28) (Quiet.pure (fun _ => by kernel_rfl)) ?_
  refine Sy.step (by kernel_rfl) (.pointer (some ⟨g0, 28, none⟩)) (Quiet.pure (fun _ => by kernel_rfl)) ?_
  refine Sy.step (by kernel_rfl) (bv (l.getD 28 0)) (Quiet.cell 0 g0 28 39 5 (l.map bv).toArray _ _ rfl (by kernel_rfl) (by kernel_rfl) Tryd.underlying5 rfl _ (key_at l hl 28 (by decide))) ?_
  refine Sy.make (by kernel_rfl) 5 #[bv (l.getD 28 0)] (fun g => .slice (some ⟨g, 0, none⟩) 1 1) (fun _ => by kernel_rfl) (fun g30 => ?_)
  refine Sy.append (by kernel_rfl) 34 5 _ _ Tryd.underlying34 info_u8 rfl rfl rfl rfl _ _ rfl 2 q28 28 c28 ([bv (l.getD 0 0), bv (l.getD 1 0), bv (l.getD 2 0), bv (l.getD 3 0), bv (l.getD 4 0), bv (l.getD 5 0), bv (l.getD 6 0), bv (l.getD 7 0), bv (l.getD 8 0), bv (l.getD 9 0), bv (l.getD 10 0), bv (l.getD 11 0), bv (l.getD 12 0), bv (l.getD 13 0), bv (l.getD 14 0), bv (l.getD 15 0), bv (l.getD 16 0), bv (l.getD 17 0), bv (l.getD 18 0), bv (l.getD 19 0), bv (l.getD 20 0), bv (l.getD 21 0), bv (l.getD 22 0), bv (l.getD 23 0), bv (l.getD 24 0), bv (l.getD 25 0), bv (l.getD 26 0), bv (l.getD 27 0)] ++ s28).toArray [bv (l.getD 0 0), bv (l.getD 1 0), bv (l.getD 2 0), bv (l.getD 3 0), bv (l.getD 4 0), bv (l.getD 5 0), bv (l.getD 6 0), bv (l.getD 7 0), bv (l.getD 8 0), bv (l.getD 9 0), bv (l.getD 10 0), bv (l.getD 11 0), bv (l.getD 12 0), bv (l.getD 13 0), bv (l.getD 14 0), bv (l.getD 15 0), bv (l.getD 16 0), bv (l.getD 17 0), bv (l.getD 18 0), bv (l.getD 19 0), bv (l.getD 20 0), bv (l.getD 21 0), bv (l.getD 22 0), bv (l.getD 23 0), bv (l.getD 24 0), bv (l.getD 25 0), bv (l.getD 26 0), bv (l.getD 27 0)] (by kernel_rfl) (by kernel_rfl) (by kernel_rfl) rfl (by rw [← e28]; simp only [List.size_toArray, List.length_append, List.length_cons, List.length_nil]; omega) m28 3 g30 0 1 1 5 #[bv (l.getD 28 0)] [bv (l.getD 28 0)] (by kernel_rfl) (by kernel_rfl) (by kernel_rfl) rfl (by intro u hu; simp only [List.mem_cons, List.not_mem_nil, or_false] at hu; subst hu; rfl) (by decide) (fun q29 c29 s29 e29 m29 => ?_)
  refine Sy.step (by kernel_rfl) (.slice (some ⟨q29, 0, none⟩) 29 c29) (Quiet.pure (fun _ => by kernel_rfl)) ?_
  refine Sy.nil ?_
  refine Sy.in_ ?_
  refine Sy.then_ ?_
  refine Sy.region ?_
  refine Sy.step (by kernel_rfl) (.int .i64 28) (Quiet.pure (fun _ => by kernel_rfl)) ?_
  refine Sy.step (by kernel_rfl) (.int .i64 29) (Quiet.pure (fun _ => by kernel_rfl)) ?_
  refine Sy.step (by kernel_rfl) (.int .i64 29) (Quiet.pure (fun _ => by kernel_rfl)) ?_
  refine Sy.nil ?_
  refine Sy.again ?_
  refine Sy.tidyR (G := [(1, .pointer (some ⟨g0, 0, none⟩)), (2, .pointer (some ⟨g1, 0, none⟩)), (4, .slice (some ⟨q29, 0, none⟩) 29 c29), (5, .int .i64 29)]) (M := [(g0, 39, (l.map bv).toArray), (g1, 28, (pcs 0 0 false)), (q29, 5, ([bv (l.getD 0 0), bv (l.getD 1 0), bv (l.getD 2 0), bv (l.getD 3 0), bv (l.getD 4 0), bv (l.getD 5 0), bv (l.getD 6 0), bv (l.getD 7 0), bv (l.getD 8 0), bv (l.getD 9 0), bv (l.getD 10 0), bv (l.getD 11 0), bv (l.getD 12 0), bv (l.getD 13 0), bv (l.getD 14 0), bv (l.getD 15 0), bv (l.getD 16 0), bv (l.getD 17 0), bv (l.getD 18 0), bv (l.getD 19 0), bv (l.getD 20 0), bv (l.getD 21 0), bv (l.getD 22 0), bv (l.getD 23 0), bv (l.getD 24 0), bv (l.getD 25 0), bv (l.getD 26 0), bv (l.getD 27 0), bv (l.getD 28 0)] ++ s29).toArray)]) [true, true, true, false] (by kernel_rfl) (all_cons (by kernel_rfl) (all_cons (by kernel_rfl) (all_cons (by kernel_rfl) (all_cons (by kernel_rfl) all_nil)))) ?_
  refine Sy.round ?_
  refine Sy.seq ?_
  refine Sy.seq ?_
  refine Sy.region ?_
  refine Sy.step (by kernel_rfl) (.int .i64 29) (Quiet.pure (fun _ => by kernel_rfl)) ?_
  refine Sy.step (by kernel_rfl) (.bool true) (Quiet.pure (fun _ => by kernel_rfl)) ?_
  refine Sy.nil ?_
  refine Sy.then_ ?_
  refine Sy.cond_t (by kernel_rfl) (by kernel_rfl) ?_
  refine Sy.skip ?_
  refine Sy.then_ ?_
  refine Sy.seq ?_
  refine Sy.block ?_
  refine Sy.region ?_
  refine Sy.step (by kernel_rfl) (.slice (some ⟨q29, 0, none⟩) 29 c29) (Quiet.pure (fun _ => by kernel_rfl)) ?_
  refine Sy.step (by kernel_rfl) (.int .i64 29) (Quiet.pure (fun _ => by kernel_rfl)) ?_
  refine Sy.step (by kernel_rfl) (.pointer (some ⟨g0, 29, none⟩)) (Quiet.pure (fun _ => by kernel_rfl)) ?_
  refine Sy.step (by kernel_rfl) (bv (l.getD 29 0)) (Quiet.cell 0 g0 29 39 5 (l.map bv).toArray _ _ rfl (by kernel_rfl) (by kernel_rfl) Tryd.underlying5 rfl _ (key_at l hl 29 (by decide))) ?_
  refine Sy.make (by kernel_rfl) 5 #[bv (l.getD 29 0)] (fun g => .slice (some ⟨g, 0, none⟩) 1 1) (fun _ => by kernel_rfl) (fun g31 => ?_)
  refine Sy.append (by kernel_rfl) 34 5 _ _ Tryd.underlying34 info_u8 rfl rfl rfl rfl _ _ rfl 2 q29 29 c29 ([bv (l.getD 0 0), bv (l.getD 1 0), bv (l.getD 2 0), bv (l.getD 3 0), bv (l.getD 4 0), bv (l.getD 5 0), bv (l.getD 6 0), bv (l.getD 7 0), bv (l.getD 8 0), bv (l.getD 9 0), bv (l.getD 10 0), bv (l.getD 11 0), bv (l.getD 12 0), bv (l.getD 13 0), bv (l.getD 14 0), bv (l.getD 15 0), bv (l.getD 16 0), bv (l.getD 17 0), bv (l.getD 18 0), bv (l.getD 19 0), bv (l.getD 20 0), bv (l.getD 21 0), bv (l.getD 22 0), bv (l.getD 23 0), bv (l.getD 24 0), bv (l.getD 25 0), bv (l.getD 26 0), bv (l.getD 27 0), bv (l.getD 28 0)] ++ s29).toArray [bv (l.getD 0 0), bv (l.getD 1 0), bv (l.getD 2 0), bv (l.getD 3 0), bv (l.getD 4 0), bv (l.getD 5 0), bv (l.getD 6 0), bv (l.getD 7 0), bv (l.getD 8 0), bv (l.getD 9 0), bv (l.getD 10 0), bv (l.getD 11 0), bv (l.getD 12 0), bv (l.getD 13 0), bv (l.getD 14 0), bv (l.getD 15 0), bv (l.getD 16 0), bv (l.getD 17 0), bv (l.getD 18 0), bv (l.getD 19 0), bv (l.getD 20 0), bv (l.getD 21 0), bv (l.getD 22 0), bv (l.getD 23 0), bv (l.getD 24 0), bv (l.getD 25 0), bv (l.getD 26 0), bv (l.getD 27 0), bv (l.getD 28 0)] (by kernel_rfl) (by kernel_rfl) (by kernel_rfl) rfl (by rw [← e29]; simp only [List.size_toArray, List.length_append, List.length_cons, List.length_nil]; omega) m29 3 g31 0 1 1 5 #[bv (l.getD 29 0)] [bv (l.getD 29 0)] (by kernel_rfl) (by kernel_rfl) (by kernel_rfl) rfl (by intro u hu; simp only [List.mem_cons, List.not_mem_nil, or_false] at hu; subst hu; rfl) (by decide) (fun q30 c30 s30 e30 m30 => ?_)
  refine Sy.step (by kernel_rfl) (.slice (some ⟨q30, 0, none⟩) 30 c30) (Quiet.pure (fun _ => by kernel_rfl)) ?_
  refine Sy.nil ?_
  refine Sy.in_ ?_
  refine Sy.then_ ?_
  refine Sy.region ?_
  refine Sy.step (by kernel_rfl) (.int .i64 29) (Quiet.pure (fun _ => by kernel_rfl)) ?_
  refine Sy.step (by kernel_rfl) (.int .i64 30) (Quiet.pure (fun _ => by kernel_rfl)) ?_
  refine Sy.step (by kernel_rfl) (.int .i64 30) (Quiet.pure (fun _ => by kernel_rfl)) ?_
  refine Sy.nil ?_
  refine Sy.again ?_
  refine Sy.tidyR (G := [(1, .pointer (some ⟨g0, 0, none⟩)), (2, .pointer (some ⟨g1, 0, none⟩)), (4, .slice (some ⟨q30, 0, none⟩) 30 c30), (5, .int .i64 30)]) (M := [(g0, 39, (l.map bv).toArray), (g1, 28, (pcs 0 0 false)), (q30, 5, ([bv (l.getD 0 0), bv (l.getD 1 0), bv (l.getD 2 0), bv (l.getD 3 0), bv (l.getD 4 0), bv (l.getD 5 0), bv (l.getD 6 0), bv (l.getD 7 0), bv (l.getD 8 0), bv (l.getD 9 0), bv (l.getD 10 0), bv (l.getD 11 0), bv (l.getD 12 0), bv (l.getD 13 0), bv (l.getD 14 0), bv (l.getD 15 0), bv (l.getD 16 0), bv (l.getD 17 0), bv (l.getD 18 0), bv (l.getD 19 0), bv (l.getD 20 0), bv (l.getD 21 0), bv (l.getD 22 0), bv (l.getD 23 0), bv (l.getD 24 0), bv (l.getD 25 0), bv (l.getD 26 0), bv (l.getD 27 0), bv (l.getD 28 0), bv (l.getD 29 0)] ++ s30).toArray)]) [true, true, true, false] (by kernel_rfl) (all_cons (by kernel_rfl) (all_cons (by kernel_rfl) (all_cons (by kernel_rfl) (all_cons (by kernel_rfl) all_nil)))) ?_
  refine Sy.round ?_
  refine Sy.seq ?_
  refine Sy.seq ?_
  refine Sy.region ?_
  refine Sy.step (by kernel_rfl) (.int .i64 30) (Quiet.pure (fun _ => by kernel_rfl)) ?_
  refine Sy.step (by kernel_rfl) (.bool true) (Quiet.pure (fun _ => by kernel_rfl)) ?_
  refine Sy.nil ?_
  refine Sy.then_ ?_
  refine Sy.cond_t (by kernel_rfl) (by kernel_rfl) ?_
  refine Sy.skip ?_
  refine Sy.then_ ?_
  refine Sy.seq ?_
  refine Sy.block ?_
  refine Sy.region ?_
  refine Sy.step (by kernel_rfl) (.slice (some ⟨q30, 0, none⟩) 30 c30) (Quiet.pure (fun _ => by kernel_rfl)) ?_
  refine Sy.step (by kernel_rfl) (.int .i64 30) (Quiet.pure (fun _ => by kernel_rfl)) ?_
  refine Sy.step (by kernel_rfl) (.pointer (some ⟨g0, 30, none⟩)) (Quiet.pure (fun _ => by kernel_rfl)) ?_
  refine Sy.step (by kernel_rfl) (bv (l.getD 30 0)) (Quiet.cell 0 g0 30 39 5 (l.map bv).toArray _ _ rfl (by kernel_rfl) (by kernel_rfl) Tryd.underlying5 rfl _ (key_at l hl 30 (by decide))) ?_
  refine Sy.make (by kernel_rfl) 5 #[bv (l.getD 30 0)] (fun g => .slice (some ⟨g, 0, none⟩) 1 1) (fun _ => by kernel_rfl) (fun g32 => ?_)
  refine Sy.append (by kernel_rfl) 34 5 _ _ Tryd.underlying34 info_u8 rfl rfl rfl rfl _ _ rfl 2 q30 30 c30 ([bv (l.getD 0 0), bv (l.getD 1 0), bv (l.getD 2 0), bv (l.getD 3 0), bv (l.getD 4 0), bv (l.getD 5 0), bv (l.getD 6 0), bv (l.getD 7 0), bv (l.getD 8 0), bv (l.getD 9 0), bv (l.getD 10 0), bv (l.getD 11 0), bv (l.getD 12 0), bv (l.getD 13 0), bv (l.getD 14 0), bv (l.getD 15 0), bv (l.getD 16 0), bv (l.getD 17 0), bv (l.getD 18 0), bv (l.getD 19 0), bv (l.getD 20 0), bv (l.getD 21 0), bv (l.getD 22 0), bv (l.getD 23 0), bv (l.getD 24 0), bv (l.getD 25 0), bv (l.getD 26 0), bv (l.getD 27 0), bv (l.getD 28 0), bv (l.getD 29 0)] ++ s30).toArray [bv (l.getD 0 0), bv (l.getD 1 0), bv (l.getD 2 0), bv (l.getD 3 0), bv (l.getD 4 0), bv (l.getD 5 0), bv (l.getD 6 0), bv (l.getD 7 0), bv (l.getD 8 0), bv (l.getD 9 0), bv (l.getD 10 0), bv (l.getD 11 0), bv (l.getD 12 0), bv (l.getD 13 0), bv (l.getD 14 0), bv (l.getD 15 0), bv (l.getD 16 0), bv (l.getD 17 0), bv (l.getD 18 0), bv (l.getD 19 0), bv (l.getD 20 0), bv (l.getD 21 0), bv (l.getD 22 0), bv (l.getD 23 0), bv (l.getD 24 0), bv (l.getD 25 0), bv (l.getD 26 0), bv (l.getD 27 0), bv (l.getD 28 0), bv (l.getD 29 0)] (by kernel_rfl) (by kernel_rfl) (by kernel_rfl) rfl (by rw [← e30]; simp only [List.size_toArray, List.length_append, List.length_cons, List.length_nil]; omega) m30 3 g32 0 1 1 5 #[bv (l.getD 30 0)] [bv (l.getD 30 0)] (by kernel_rfl) (by kernel_rfl) (by kernel_rfl) rfl (by intro u hu; simp only [List.mem_cons, List.not_mem_nil, or_false] at hu; subst hu; rfl) (by decide) (fun q31 c31 s31 e31 m31 => ?_)
  refine Sy.step (by kernel_rfl) (.slice (some ⟨q31, 0, none⟩) 31 c31) (Quiet.pure (fun _ => by kernel_rfl)) ?_
  refine Sy.nil ?_
  refine Sy.in_ ?_
  refine Sy.then_ ?_
  refine Sy.region ?_
  refine Sy.step (by kernel_rfl) (.int .i64 30) (Quiet.pure (fun _ => by kernel_rfl)) ?_
  refine Sy.step (by kernel_rfl) (.int .i64 31) (Quiet.pure (fun _ => by kernel_rfl)) ?_
  refine Sy.step (by kernel_rfl) (.int .i64 31) (Quiet.pure (fun _ => by kernel_rfl)) ?_
  refine Sy.nil ?_
  refine Sy.again ?_
  refine Sy.tidyR (G := [(1, .pointer (some ⟨g0, 0, none⟩)), (2, .pointer (some ⟨g1, 0, none⟩)), (4, .slice (some ⟨q31, 0, none⟩) 31 c31), (5, .int .i64 31)]) (M := [(g0, 39, (l.map bv).toArray), (g1, 28, (pcs 0 0 false)), (q31, 5, ([bv (l.getD 0 0), bv (l.getD 1 0), bv (l.getD 2 0), bv (l.getD 3 0), bv (l.getD 4 0), bv (l.getD 5 0), bv (l.getD 6 0), bv (l.getD 7 0), bv (l.getD 8 0), bv (l.getD 9 0), bv (l.getD 10 0), bv (l.getD 11 0), bv (l.getD 12 0), bv (l.getD 13 0), bv (l.getD 14 0), bv (l.getD 15 0), bv (l.getD 16 0), bv (l.getD 17 0), bv (l.getD 18 0), bv (l.getD 19 0), bv (l.getD 20 0), bv (l.getD 21 0), bv (l.getD 22 0), bv (l.getD 23 0), bv (l.getD 24 0), bv (l.getD 25 0), bv (l.getD 26 0), bv (l.getD 27 0), bv (l.getD 28 0), bv (l.getD 29 0), bv (l.getD 30 0)] ++ s31).toArray)]) [true, true, true, false] (by kernel_rfl) (all_cons (by kernel_rfl) (all_cons (by kernel_rfl) (all_cons (by kernel_rfl) (all_cons (by kernel_rfl) all_nil)))) ?_
  refine Sy.round ?_
  refine Sy.seq ?_
  refine Sy.seq ?_
  refine Sy.region ?_
  refine Sy.step (by kernel_rfl) (.int .i64 31) (Quiet.pure (fun _ => by kernel_rfl)) ?_
  refine Sy.step (by kernel_rfl) (.bool true) (Quiet.pure (fun _ => by kernel_rfl)) ?_
  refine Sy.nil ?_
  refine Sy.then_ ?_
  refine Sy.cond_t (by kernel_rfl) (by kernel_rfl) ?_
  refine Sy.skip ?_
  refine Sy.then_ ?_
  refine Sy.seq ?_
  refine Sy.block ?_
  refine Sy.region ?_
  refine Sy.step (by kernel_rfl) (.slice (some ⟨q31, 0, none⟩) 31 c31) (Quiet.pure (fun _ => by kernel_rfl)) ?_
  refine Sy.step (by kernel_rfl) (.int .i64 31) (Quiet.pure (fun _ => by kernel_rfl)) ?_
  refine Sy.step (by kernel_rfl) (.pointer (some ⟨g0, 31, none⟩)) (Quiet.pure (fun _ => by kernel_rfl)) ?_
  refine Sy.step (by kernel_rfl) (bv (l.getD 31 0)) (Quiet.cell 0 g0 31 39 5 (l.map bv).toArray _ _ rfl (by kernel_rfl) (by kernel_rfl) Tryd.underlying5 rfl _ (key_at l hl 31 (by decide))) ?_
  refine Sy.make (by kernel_rfl) 5 #[bv (l.getD 31 0)] (fun g => .slice (some ⟨g, 0, none⟩) 1 1) (fun _ => by kernel_rfl) (fun g33 => ?_)
  refine Sy.append (by kernel_rfl) 34 5 _ _ Tryd.underlying34 info_u8 rfl rfl rfl rfl _ _ rfl 2 q31 31 c31 ([bv (l.getD 0 0), bv (l.getD 1 0), bv (l.getD 2 0), bv (l.getD 3 0), bv (l.getD 4 0), bv (l.getD 5 0), bv (l.getD 6 0), bv (l.getD 7 0), bv (l.getD 8 0), bv (l.getD 9 0), bv (l.getD 10 0), bv (l.getD 11 0), bv (l.getD 12 0), bv (l.getD 13 0), bv (l.getD 14 0), bv (l.getD 15 0), bv (l.getD 16 0), bv (l.getD 17 0), bv (l.getD 18 0), bv (l.getD 19 0), bv (l.getD 20 0), bv (l.getD 21 0), bv (l.getD 22 0), bv (l.getD 23 0), bv (l.getD 24 0), bv (l.getD 25 0), bv (l.getD 26 0), bv (l.getD 27 0), bv (l.getD 28 0), bv (l.getD 29 0), bv (l.getD 30 0)] ++ s31).toArray [bv (l.getD 0 0), bv (l.getD 1 0), bv (l.getD 2 0), bv (l.getD 3 0), bv (l.getD 4 0), bv (l.getD 5 0), bv (l.getD 6 0), bv (l.getD 7 0), bv (l.getD 8 0), bv (l.getD 9 0), bv (l.getD 10 0), bv (l.getD 11 0), bv (l.getD 12 0), bv (l.getD 13 0), bv (l.getD 14 0), bv (l.getD 15 0), bv (l.getD 16 0), bv (l.getD 17 0), bv (l.getD 18 0), bv (l.getD 19 0), bv (l.getD 20 0), bv (l.getD 21 0), bv (l.getD 22 0), bv (l.getD 23 0), bv (l.getD 24 0), bv (l.getD 25 0), bv (l.getD 26 0), bv (l.getD 27 0), bv (l.getD 28 0), bv (l.getD 29 0), bv (l.getD 30 0)] (by kernel_rfl) (by kernel_rfl) (by kernel_rfl) rfl (by rw [← e31]; simp only [List.size_toArray, List.length_append, List.length_cons, List.length_nil]; omega) m31 3 g33 0 1 1 5 #[bv (l.getD 31 0)] [bv (l.getD 31 0)] (by kernel_rfl) (by kernel_rfl) (by kernel_rfl) rfl (by intro u hu; simp only [List.mem_cons, List.not_mem_nil, or_false] at hu; subst hu; rfl) (by decide) (fun q32 c32 s32 e32 m32 => ?_)
  refine Sy.step (by kernel_rfl) (.slice (some ⟨q32, 0, none⟩) 32 c32) (Quiet.pure (fun _ => by kernel_rfl)) ?_
  refine Sy.nil ?_
  refine Sy.in_ ?_
  refine Sy.then_ ?_
  refine Sy.region ?_
  refine Sy.step (by kernel_rfl) (.int .i64 31) (Quiet.pure (fun _ => by kernel_rfl)) ?_
  refine Sy.step (by kernel_rfl) (.int .i64 32) (Quiet.pure (fun _ => by kernel_rfl)) ?_
  refine Sy.step (by kernel_rfl) (.int .i64 32) (Quiet.pure (fun _ => by kernel_rfl)) ?_
  refine Sy.nil ?_
  refine Sy.again ?_
  refine Sy.tidyR (G := [(1, .pointer (some ⟨g0, 0, none⟩)), (2, .pointer (some ⟨g1, 0, none⟩)), (4, .slice (some ⟨q32, 0, none⟩) 32 c32), (5, .int .i64 32)]) (M := [(g0, 39, (l.map bv).toArray), (g1, 28, (pcs 0 0 false)), (q32, 5, ([bv (l.getD 0 0), bv (l.getD 1 0), bv (l.getD 2 0), bv (l.getD 3 0), bv (l.getD 4 0), bv (l.getD 5 0), bv (l.getD 6 0), bv (l.getD 7 0), bv (l.getD 8 0), bv (l.getD 9 0), bv (l.getD 10 0), bv (l.getD 11 0), bv (l.getD 12 0), bv (l.getD 13 0), bv (l.getD 14 0), bv (l.getD 15 0), bv (l.getD 16 0), bv (l.getD 17 0), bv (l.getD 18 0), bv (l.getD 19 0), bv (l.getD 20 0), bv (l.getD 21 0), bv (l.getD 22 0), bv (l.getD 23 0), bv (l.getD 24 0), bv (l.getD 25 0), bv (l.getD 26 0), bv (l.getD 27 0), bv (l.getD 28 0), bv (l.getD 29 0), bv (l.getD 30 0), bv (l.getD 31 0)] ++ s32).toArray)]) [true, true, true, false] (by kernel_rfl) (all_cons (by kernel_rfl) (all_cons (by kernel_rfl) (all_cons (by kernel_rfl) (all_cons (by kernel_rfl) all_nil)))) ?_
  refine Sy.round ?_
  refine Sy.seq ?_
  refine Sy.seq ?_
  refine Sy.region ?_
  refine Sy.step (by kernel_rfl) (.int .i64 32) (Quiet.pure (fun _ => by kernel_rfl)) ?_
  refine Sy.step (by kernel_rfl) (.bool false) (Quiet.pure (fun _ => by kernel_rfl)) ?_
  refine Sy.nil ?_
  refine Sy.then_ ?_
  refine Sy.cond_f (by kernel_rfl) (by kernel_rfl) ?_
  refine Sy.exit ?_
  refine Sy.then_exit ?_
  refine Sy.then_exit ?_
  refine Sy.in_exit ?_
  refine Sy.then_ ?_
  refine Sy.seq ?_
  refine Sy.region ?_
  refine Sy.step (by kernel_rfl) (.slice (some ⟨q32, 0, none⟩) 32 c32) (Quiet.pure (fun _ => by kernel_rfl)) ?_
  refine Sy.step (by kernel_rfl) (fv (valB l)) (Quiet.callS 39 #[.slice (some ⟨q32, 0, none⟩) 32 c32] (fun _ => by kernel_rfl) (fun w hw => numberR_any w q32 c32 l hl (hw.get (i := 2) rfl).lt (fun j u hj => by rw [(hw.get (i := 2) (t := 5) (cs := ([bv (l.getD 0 0), bv (l.getD 1 0), bv (l.getD 2 0), bv (l.getD 3 0), bv (l.getD 4 0), bv (l.getD 5 0), bv (l.getD 6 0), bv (l.getD 7 0), bv (l.getD 8 0), bv (l.getD 9 0), bv (l.getD 10 0), bv (l.getD 11 0), bv (l.getD 12 0), bv (l.getD 13 0), bv (l.getD 14 0), bv (l.getD 15 0), bv (l.getD 16 0), bv (l.getD 17 0), bv (l.getD 18 0), bv (l.getD 19 0), bv (l.getD 20 0), bv (l.getD 21 0), bv (l.getD 22 0), bv (l.getD 23 0), bv (l.getD 24 0), bv (l.getD 25 0), bv (l.getD 26 0), bv (l.getD 27 0), bv (l.getD 28 0), bv (l.getD 29 0), bv (l.getD 30 0), bv (l.getD 31 0)] ++ s32).toArray) rfl).cell]; exact own_cells l hl _ j u hj) (by omega) (by simpa [maxLen] using m32))) ?_
  refine Sy.make (by kernel_rfl) 68 (fcs 0) ptr (fun _ => by kernel_rfl) (fun g34 => ?_)
  refine Sy.write (by kernel_rfl) 3 g34 68 (fcs 0) (fcs (valB l)) (by kernel_rfl) (Writes.store 0 68 (fcs (valB l)) _ _ rfl (by kernel_rfl) (by kernel_rfl) (by kernel_rfl) (Nat.le_of_ble_eq_true (by kernel_rfl)) (by kernel_rfl) (by kernel_rfl)) ?_
  refine Sy.nil ?_
  refine Sy.then_ ?_
  refine Sy.seq ?_
  refine Sy.region ?_
  refine Sy.step (by kernel_rfl) (fv (valB l)) (Quiet.load 3 g34 0 4 68 68 (fcs (valB l)) _ _ rfl (by kernel_rfl) (by kernel_rfl) Tryd.underlying68 rfl (by kernel_rfl) _ (by kernel_rfl) (Nat.le_of_ble_eq_true (by kernel_rfl))) ?_
  obtain ⟨z1, hz1⟩ : ∃ z : Nat, z = cubeN (valB l) := ⟨_, rfl⟩
  have lz1 : z1 < K4 := by rw [hz1]; exact cubeN_lt _
  refine Sy.step (by kernel_rfl) (fv z1) (Quiet.call 41 #[fv (valB l)] (fun _ => by kernel_rfl) (fun w => by rw [hz1]; exact cubeR_n w (valB l) (by first | assumption | exact lt4 _ | decide +kernel))) ?_
  obtain ⟨r1, hr1⟩ : ∃ z : Nat, z = (sqrtS z1).1 := ⟨_, rfl⟩
  obtain ⟨k1, hk1⟩ : ∃ z : Bool, z = (sqrtS z1).2 := ⟨_, rfl⟩
  have lr1 : r1 < K4 := by rw [hr1]; exact sqrt_lt _
  refine Sy.step (by kernel_rfl) (.tuple #[fv r1, .bool k1]) (Quiet.call 40 #[fv z1] (fun _ => by kernel_rfl) (fun w => by rw [hr1, hk1, ← sqrt_is]; exact sqrtR_any w z1 (by first | assumption | exact lt4 _ | decide +kernel))) ?_
  refine Sy.step (by kernel_rfl) (.tuple #[fv r1, .bool k1]) (Quiet.pure (fun _ => by kernel_rfl)) ?_
  refine Sy.step (by kernel_rfl) (fv r1) (Quiet.pure (fun _ => by kernel_rfl)) ?_
  refine Sy.step (by kernel_rfl) (.bool k1) (Quiet.pure (fun _ => by kernel_rfl)) ?_
  refine Sy.make (by kernel_rfl) 68 (fcs 0) ptr (fun _ => by kernel_rfl) (fun g35 => ?_)
  refine Sy.write (by kernel_rfl) 4 g35 68 (fcs 0) (fcs r1) (by kernel_rfl) (Writes.store 0 68 (fcs r1) _ _ rfl (by kernel_rfl) (by kernel_rfl) (by kernel_rfl) (Nat.le_of_ble_eq_true (by kernel_rfl)) (by kernel_rfl) (by kernel_rfl)) ?_
  refine Sy.step (by kernel_rfl) (.bool k1) (Quiet.pure (fun _ => by kernel_rfl)) ?_
  refine Sy.nil ?_
  refine Sy.then_ ?_
  refine Sy.seq ?_
  refine Sy.regionD (fun j => false) (by kernel_rfl) ?_
  refine Sy.stepD 0 rfl (by kernel_rfl) (fun _ _ _ _ h => h) (by kernel_rfl) (.agg modcs) (Quiet.call 43 #[] (fun _ => by kernel_rfl) (refP_any)) ?_
  refine Sy.stepD 1 rfl (by kernel_rfl) (fun _ _ _ _ h => h) (by kernel_rfl) (fv (valB l)) (Quiet.load 3 g34 0 4 68 68 (fcs (valB l)) _ _ rfl (by kernel_rfl) (by kernel_rfl) Tryd.underlying68 rfl (by kernel_rfl) _ (by kernel_rfl) (Nat.le_of_ble_eq_true (by kernel_rfl))) ?_
  obtain ⟨b1, hb1⟩ : ∃ z : Bool, z = decide ((valB l) < pM) := ⟨_, rfl⟩
  refine Sy.stepD 2 rfl (by kernel_rfl) (fun _ _ _ _ h => h) (by kernel_rfl) (.bool b1) (Quiet.call 42 #[.agg modcs, fv (valB l)] (fun _ => by kernel_rfl) (fun w => by rw [hb1]; exact rightR_any w (valB l) (by first | assumption | exact lt4 _ | decide +kernel))) ?_
  refine Sy.stepD 3 rfl (by kernel_rfl) (fun _ _ _ _ h => h) (by kernel_rfl) (.bool b1) (Quiet.pure (fun _ => by kernel_rfl)) ?_
  refine Sy.doneD (by kernel_rfl) ?_
  refine Sy.then_ ?_
  refine Sy.seq ?_
  refine Sy.seq ?_
  refine Sy.region ?_
  refine Sy.step (by kernel_rfl) (.bool k1) (Quiet.pure (fun _ => by kernel_rfl)) ?_
  cases k1
  · refine Sy.step (by kernel_rfl) (.bool true) (Quiet.pure (fun _ => by kernel_rfl)) ?_
    refine Sy.step (by kernel_rfl) (.bool true) (Quiet.pure (fun _ => by kernel_rfl)) ?_
    refine Sy.pass (by kernel_rfl) (by kernel_rfl) ?_
    refine Sy.pass (by kernel_rfl) (by kernel_rfl) ?_
    refine Sy.step (by kernel_rfl) (.bool true) (Quiet.pure (fun _ => by kernel_rfl)) ?_
    refine Sy.nil ?_
    refine Sy.then_ ?_
    refine Sy.cond_t (by kernel_rfl) (by kernel_rfl) ?_
    refine Sy.seq ?_
    refine Sy.region ?_
    refine Sy.step (by kernel_rfl) (pv 0 0 true) (Quiet.call 44 #[] (fun _ => by kernel_rfl) (zeroR_c)) ?_
    refine Sy.write (by kernel_rfl) 1 g1 28 (pcs 0 0 false) (pcs 0 0 true) (by kernel_rfl) (Writes.store 0 28 (pcs 0 0 true) _ _ rfl (by kernel_rfl) (by kernel_rfl) (by kernel_rfl) (Nat.le_of_ble_eq_true (by kernel_rfl)) (by kernel_rfl) (by kernel_rfl)) ?_
    refine Sy.step (by kernel_rfl) (.bool false) (Quiet.pure (fun _ => by kernel_rfl)) ?_
    refine Sy.nil ?_
    refine Sy.then_ ?_
    refine Sy.ret ?_
    refine Sy.then_ret ?_
    rw [show (.tuple #[ptv (liftP l), .bool (liftB l)] : Value) = .tuple #[pv 0 0 true, .bool false] from by
      have hb : liftB l = false := by unfold liftB; rw [← hz1, ← hk1]; simp
      rw [hb, lift_no hb]; rfl]
    exact Sy.ret2 (v := pv 0 0 true) (u := .bool false) rfl (.inl (Res.cell (ty' := 28) g1 1 (pcs 0 0 true) _ (by kernel_rfl) (by kernel_rfl) Tryd.underlying28 rfl (by kernel_rfl) (by kernel_rfl))) (.inl (show _ = _ by kernel_rfl))
  · refine Sy.step (by kernel_rfl) (.bool false) (Quiet.pure (fun _ => by kernel_rfl)) ?_
    refine Sy.step (by kernel_rfl) (.bool false) (Quiet.pure (fun _ => by kernel_rfl)) ?_
    refine Sy.step (by kernel_rfl) (.bool b1) (Quiet.pure (fun _ => by kernel_rfl)) ?_
    cases b1
    · refine Sy.step (by kernel_rfl) (.bool true) (Quiet.pure (fun _ => by kernel_rfl)) ?_
      refine Sy.step (by kernel_rfl) (.bool true) (Quiet.pure (fun _ => by kernel_rfl)) ?_
      refine Sy.nil ?_
      refine Sy.then_ ?_
      refine Sy.cond_t (by kernel_rfl) (by kernel_rfl) ?_
      refine Sy.seq ?_
      refine Sy.region ?_
      refine Sy.step (by kernel_rfl) (pv 0 0 true) (Quiet.call 44 #[] (fun _ => by kernel_rfl) (zeroR_c)) ?_
      refine Sy.write (by kernel_rfl) 1 g1 28 (pcs 0 0 false) (pcs 0 0 true) (by kernel_rfl) (Writes.store 0 28 (pcs 0 0 true) _ _ rfl (by kernel_rfl) (by kernel_rfl) (by kernel_rfl) (Nat.le_of_ble_eq_true (by kernel_rfl)) (by kernel_rfl) (by kernel_rfl)) ?_
      refine Sy.step (by kernel_rfl) (.bool false) (Quiet.pure (fun _ => by kernel_rfl)) ?_
      refine Sy.nil ?_
      refine Sy.then_ ?_
      refine Sy.ret ?_
      refine Sy.then_ret ?_
      rw [show (.tuple #[ptv (liftP l), .bool (liftB l)] : Value) = .tuple #[pv 0 0 true, .bool false] from by
        have hb : liftB l = false := by unfold liftB; rw [← hb1]; simp
        rw [hb, lift_no hb]; rfl]
      exact Sy.ret2 (v := pv 0 0 true) (u := .bool false) rfl (.inl (Res.cell (ty' := 28) g1 1 (pcs 0 0 true) _ (by kernel_rfl) (by kernel_rfl) Tryd.underlying28 rfl (by kernel_rfl) (by kernel_rfl))) (.inl (show _ = _ by kernel_rfl))
    · refine Sy.step (by kernel_rfl) (.bool false) (Quiet.pure (fun _ => by kernel_rfl)) ?_
      refine Sy.step (by kernel_rfl) (.bool false) (Quiet.pure (fun _ => by kernel_rfl)) ?_
      refine Sy.nil ?_
      refine Sy.then_ ?_
      refine Sy.cond_f (by kernel_rfl) (by kernel_rfl) ?_
      refine Sy.skip ?_
      refine Sy.then_ ?_
      refine Sy.seq ?_
      refine Sy.region ?_
      refine Sy.step (by kernel_rfl) (fv (valB l)) (Quiet.load 3 g34 0 4 68 68 (fcs (valB l)) _ _ rfl (by kernel_rfl) (by kernel_rfl) Tryd.underlying68 rfl (by kernel_rfl) _ (by kernel_rfl) (Nat.le_of_ble_eq_true (by kernel_rfl))) ?_
      refine Sy.step (by kernel_rfl) (fv r1) (Quiet.load 4 g35 0 4 68 68 (fcs r1) _ _ rfl (by kernel_rfl) (by kernel_rfl) Tryd.underlying68 rfl (by kernel_rfl) _ (by kernel_rfl) (Nat.le_of_ble_eq_true (by kernel_rfl))) ?_
      refine Sy.step (by kernel_rfl) (pv (valB l) r1 false) (Quiet.call 45 #[fv (valB l), fv r1] (fun _ => by kernel_rfl) (fun w => pointR_c w (valB l) r1 (by first | assumption | exact lt4 _ | decide +kernel) (by first | assumption | exact lt4 _ | decide +kernel))) ?_
      refine Sy.write (by kernel_rfl) 1 g1 28 (pcs 0 0 false) (pcs (valB l) r1 false) (by kernel_rfl) (Writes.store 0 28 (pcs (valB l) r1 false) _ _ rfl (by kernel_rfl) (by kernel_rfl) (by kernel_rfl) (Nat.le_of_ble_eq_true (by kernel_rfl)) (by kernel_rfl) (by kernel_rfl)) ?_
      refine Sy.step (by kernel_rfl) (.bool true) (Quiet.pure (fun _ => by kernel_rfl)) ?_
      refine Sy.nil ?_
      refine Sy.then_ ?_
      refine Sy.ret ?_
      rw [show (.tuple #[ptv (liftP l), .bool (liftB l)] : Value) = .tuple #[pv (valB l) r1 false, .bool true] from by
        have hb : liftB l = true := by unfold liftB; rw [← hz1, ← hk1, ← hb1]; rfl
        obtain ⟨u2, y2, e1, e2, e3, _, _⟩ := lift_yes hb
        rw [hb, e3]
        unfold ptv
        simp only
        rw [e1, e2, ← hz1, ← hr1]]
      exact Sy.ret2 (v := pv (valB l) r1 false) (u := .bool true) rfl (.inl (Res.cell (ty' := 28) g1 1 (pcs (valB l) r1 false) _ (by kernel_rfl) (by kernel_rfl) Tryd.underlying28 rfl (by kernel_rfl) (by kernel_rfl))) (.inl (show _ = _ by kernel_rfl))
end Go.Proofs.YtneeefinaejgcaaDoor.Cu

end
section
namespace Go.Proofs.YtneeefinaejgcaaDoor.Cu
open Go.RowKit Go.Proofs.YtneeefinaejgcaaDoor Go.Proofs.YtneeefinaejgcaaDoor.Sy

theorem liftP_on (l : List UInt8) : Ec.On (liftP l) := by
  cases h : liftB l
  · rw [lift_no h]; trivial
  · obtain ⟨u, y, _, _, e, ho, _⟩ := lift_yes h
    rw [e]; exact ho
end Go.Proofs.YtneeefinaejgcaaDoor.Cu

end
section
namespace Go.Proofs.YtneeefinaejgcaaDoor.Cu
open Go.RowKit Go.Proofs.YtneeefinaejgcaaDoor Go.Proofs.YtneeefinaejgcaaDoor.Sy

end Go.Proofs.YtneeefinaejgcaaDoor.Cu

end
section
namespace Go.Proofs.YtneeefinaejgcaaDoor.Cu
open Go.RowKit Go.Proofs.YtneeefinaejgcaaDoor Go.Proofs.YtneeefinaejgcaaDoor.Sy

end Go.Proofs.YtneeefinaejgcaaDoor.Cu

end
section
namespace Go.Proofs.YtneeefinaejgcaaDoor.Cu
open Go.RowKit Go.Proofs.YtneeefinaejgcaaDoor Go.Proofs.YtneeefinaejgcaaDoor.Sy

theorem setAll_all : ∀ (vs : List Value) (o : Nat) (cs : Array Value), o + vs.length = cs.size → setAll cs o vs = (cs.toList.take o ++ vs).toArray
  | [], o, cs, h => by
    rw [List.append_nil, List.take_of_length_le (by simp at h ⊢; omega)]
    simp [setAll]
  | v :: r, o, cs, h => by
    have hlt : o < cs.size := by simp at h; omega
    rw [setAll, setAll_all r (o + 1) _ (by simp at h ⊢; omega)]
    congr 1
    rw [Array.toList_setIfInBounds, List.take_set, List.take_succ_eq_append_getElem (by simpa using hlt), List.set_append_right _ _ (by rw [List.length_take]; exact Nat.min_le_left _ _)]
    have : (cs.toList.take o).length = o := by simp; omega
    simp [this]
theorem key_set (cs : Array Value) (l : List UInt8) (h : l.length = cs.size) : setAll cs 0 (l.map bv).toArray.toList = (l.map bv).toArray := by
  have := setAll_all (l.map bv) 0 cs (by simp; omega)
  simpa using this
theorem key_sz (l : List UInt8) {n : Nat} (h : l.length = n) : (l.map bv).toArray.size = n := by simp; omega
theorem key_one (l : List UInt8) : (l.map bv).toArray.all (·.oneCell') = true := by simp [bv, Value.oneCell']
end Go.Proofs.YtneeefinaejgcaaDoor.Cu

end
section
namespace Go.Proofs.YtneeefinaejgcaaDoor.Cu
open Go.RowKit Go.Proofs.YtneeefinaejgcaaDoor Go.Proofs.YtneeefinaejgcaaDoor.Sy

/-- the name under which a generator's X are drawn -/
def genNm : ByteArray := ⟨#[116, 111, 108, 108, 104, 111, 117, 115, 101, 47, 103, 101, 110, 101, 114, 97, 116, 111, 114]⟩
/-- the k-th X that a name's generator may have -/
def genX (nm : List UInt8) (k : Nat) : List UInt8 := Sh.taggedS genNm.data.toList (nm ++ [UInt8.ofNat k])
theorem genX_length (nm : List UInt8) (k : Nat) : (genX nm k).length = 32 := Sh.sum_length _
/-- the first k below n that f takes gives g k, and d, if it takes none -/
def pickP (f : Nat → Bool) (g : Nat → Pt) (d : Pt) (n : Nat) : Pt := ((List.range n).find? f).elim d g
theorem pick_first {f : Nat → Bool} {g : Nat → Pt} {d : Pt} {n k : Nat} (hk : k < n) (h : ∀ j, j < k → f j = false) (hb : f k = true) : pickP f g d n = g k := by
  have e : (List.range n).find? f = some k := by
    rw [List.find?_range_eq_some]
    exact ⟨hb, List.mem_range.2 hk, fun j hj => by rw [h j hj]; rfl⟩
  unfold pickP
  rw [e]
  rfl
theorem pick_none {f : Nat → Bool} {g : Nat → Pt} {d : Pt} {n : Nat} (h : ∀ j, j < n → f j = false) : pickP f g d n = d := by
  have e : (List.range n).find? f = none := by
    rw [List.find?_eq_none]
    intro j hj
    rw [h j (List.mem_range.1 hj)]
    exact fun h => by cases h
  unfold pickP
  rw [e]
  rfl
theorem pick_cases (f : Nat → Bool) (g : Nat → Pt) (d : Pt) (n : Nat) : pickP f g d n = d ∨ ∃ k, f k = true ∧ pickP f g d n = g k := by
  unfold pickP
  cases e : (List.range n).find? f with
  | none => exact .inl rfl
  | some k => exact .inr ⟨k, List.find?_some e, rfl⟩
/-- a name's generator -/
def genP (nm : List UInt8) : Pt := pickP (fun i => liftB (genX nm i)) (fun i => liftP (genX nm i)) bP 256
theorem gen_first {nm : List UInt8} {k : Nat} (hk : k < 256) (h : ∀ j, j < k → liftB (genX nm j) = false) (hb : liftB (genX nm k) = true) : genP nm = liftP (genX nm k) := pick_first (f := fun i => liftB (genX nm i)) (g := fun i => liftP (genX nm i)) hk h hb
theorem gen_none {nm : List UInt8} (h : ∀ j, j < 256 → liftB (genX nm j) = false) : genP nm = bP := pick_none (f := fun i => liftB (genX nm i)) (g := fun i => liftP (genX nm i)) h
theorem gen_cases (nm : List UInt8) : genP nm = bP ∨ ∃ k, liftB (genX nm k) = true ∧ genP nm = liftP (genX nm k) := pick_cases (fun i => liftB (genX nm i)) (fun i => liftP (genX nm i)) bP 256
theorem genP_on (nm : List UInt8) : Ec.On (genP nm) := by
  rcases gen_cases nm with h | ⟨k, _, h⟩
  · rw [h]; exact bP_on
  · rw [h]; exact liftP_on _
theorem genP_ne (nm : List UInt8) : ∃ p, genP nm = some p := by
  rcases gen_cases nm with h | ⟨k, hb, h⟩
  · exact ⟨_, h⟩
  · obtain ⟨u, y, _, _, e, _⟩ := lift_yes hb
    exact ⟨_, h.trans e⟩
/-- a point's parts -/
def qX : Pt → Nat
  | none => 0
  | some (x, _) => x.val
def qY : Pt → Nat
  | none => 0
  | some (_, y) => y.val
def qI : Pt → Bool
  | none => true
  | some _ => false
theorem ptv_q : ∀ P : Pt, ptv P = pv (qX P) (qY P) (qI P)
  | none => rfl
  | some (_, _) => rfl
theorem conv_u8 (w : World) (F : Slots) (o : Oper) (x : Operand) (k : Nat) (hk : k < 256) (ho : o.op = .convert 3 5 x) (hx : evF F x = .int .i64 (k : Int)) : (execOp (evF F) o).run Tryd.prog w = .ok (.value (bv (UInt8.ofNat k))) w := by
  have h : (convert 3 5 (.int .i64 (k : Int))).run Tryd.prog w = .ok (bv (UInt8.ofNat k)) w := by
    have e : (UInt8.ofNat k).toNat = k := by rw [UInt8.toNat_ofNat']; omega
    unfold bv
    rw [e]
    go_simp
    exact wrap_u8 (by omega) (by omega)
  unfold execOp
  simp only [ho, hx, Sem.run_bind, h, Result.andThen_ok, Sem.run_pure]
theorem texts_gen {w : World} (nm : List UInt8) (hn : nm.length = 32) (k c g0 g1 : Nat) (t0 t1 : TypeId) (A : Option Addr) (hA : Sh.Src w A nm) (hc : 32 ≤ c) (hc2 : c ≤ 9223372036854775807) (h0 : Blk w g0 t0 #[bv (UInt8.ofNat k)]) (h1 : Blk w g1 t1 #[.slice A 32 c, .slice (some ⟨g0, 0, none⟩) 1 1]) :
    Sh.Texts w (some ⟨g1, 0, none⟩) [⟨A, nm, c⟩, ⟨some ⟨g0, 0, none⟩, [UInt8.ofNat k], 1⟩] := fun _ => by
  refine ⟨g1, 0, rfl, h1.lt, fun j y hy => ?_⟩
  rw [Nat.zero_add]
  rcases j with _ | _ | j
  · cases hy
    refine ⟨(h1.cell 0).trans ?_, hA, by show nm.length ≤ c; omega, hc2⟩
    show some (Value.slice A 32 c) = some (Value.slice A nm.length c)
    rw [hn]
  · cases hy
    exact ⟨h1.cell 1, Sh.Src.of_blk h0, by show 1 ≤ 1; omega, by show 1 ≤ 9223372036854775807; omega⟩
  · cases hy
theorem tag_gen {f : FuncId} {tb : Nat} (nm : List UInt8) (hn : nm.length = 32) (k c g0 g1 : Nat) (t0 t1 : TypeId) (A : Option Addr)
    (hf : ∀ (w : World) (s : ByteArray) (T : Option Addr) (ts : List Sh.Tx) (ct : Nat), Sh.Texts w T ts → Sh.TabAt w tb → s.size ≤ 1000000000 → (Sh.cat ts).length ≤ 1000000000 → ts.length ≤ 1000000000 → Calls Tryd.prog f #[.string s, .slice T ts.length ct] w fun e w' => e = .returned (Sh.dv (Sh.taggedS s.data.toList (Sh.cat ts))) ∧ Below w.heap.size w w')
    (w : World) (hA : Sh.Src w A nm) (hc : 32 ≤ c) (hc2 : c ≤ 9223372036854775807) (h0 : Blk w g0 t0 #[bv (UInt8.ofNat k)]) (h1 : Blk w g1 t1 #[.slice A 32 c, .slice (some ⟨g0, 0, none⟩) 1 1]) (ht : Sh.TabAt w tb) :
    Calls Tryd.prog f #[.string genNm, .slice (some ⟨g1, 0, none⟩) 2 2] w (Gets w (.agg ((genX nm k).map bv).toArray)) := by
  have e : Sh.cat [⟨A, nm, c⟩, ⟨some ⟨g0, 0, none⟩, [UInt8.ofNat k], 1⟩] = nm ++ [UInt8.ofNat k] := by simp [Sh.cat]
  have h := hf w genNm _ _ 2 (texts_gen nm hn k c g0 g1 t0 t1 A hA hc hc2 h0 h1) ht (by decide) (by rw [e, List.length_append, hn]; show 32 + 1 ≤ 1000000000; decide) (by show 2 ≤ 1000000000; decide)
  rw [e] at h
  exact h
theorem all_snoc {nm : List UInt8} {pre : List (Fin 256)} {x : Fin 256} (h : ∀ y ∈ pre, liftB (genX nm y.val) = false) (hx : false = liftB (genX nm x.val)) : ∀ y ∈ pre ++ [x], liftB (genX nm y.val) = false := fun y hy => by
  rcases List.mem_append.1 hy with hy | hy
  · exact h y hy
  · rw [List.mem_singleton.1 hy]; exact hx.symm
theorem all_lt {nm : List UInt8} {k : Nat} (h : ∀ j, j < k → liftB (genX nm j) = false) (hx : false = liftB (genX nm k)) : ∀ j, j < k + 1 → liftB (genX nm j) = false := fun j hj => by
  rcases Nat.lt_or_ge j k with hlt | hge
  · exact h j hlt
  · rw [show j = k by omega]; exact hx.symm
/-- the last of them -/
def lastP (nm : List UInt8) (pre : List (Fin 256)) : Pt := match pre.getLast? with
  | some x => liftP (genX nm x.val)
  | none => none
theorem lastP_snoc (nm : List UInt8) (pre : List (Fin 256)) (x : Fin 256) : lastP nm (pre ++ [x]) = liftP (genX nm x.val) := by
  unfold lastP
  rw [List.getLast?_append]
  rfl
/-- the last one has a point, the ones before it none -/
def GHx (nm : List UInt8) (pre : List (Fin 256)) : Prop := ∃ init x, pre = init ++ [x] ∧ (∀ y ∈ init, liftB (genX nm y.val) = false) ∧ liftB (genX nm x.val) = true
theorem before_k {nm : List UInt8} {pre : List (Fin 256)} {k : Nat} (hp : pre.map (·.1) = List.range k) (h : ∀ y ∈ pre, liftB (genX nm y.val) = false) : ∀ j, j < k → liftB (genX nm j) = false := fun j hj => by
  have : j ∈ pre.map (·.1) := by rw [hp]; exact List.mem_range.2 hj
  obtain ⟨y, hy, rfl⟩ := List.mem_map.1 this
  exact h y hy
theorem gen_stop {nm : List UInt8} {pre : List (Fin 256)} (hs : ∃ k, k ≤ 256 ∧ pre.map (·.1) = List.range k) (hx : GHx nm pre) : lastP nm pre = genP nm := by
  obtain ⟨k, hk, hp⟩ := hs
  obtain ⟨init, x, rfl, hi, hb⟩ := hx
  have hl : init.length + 1 = k := by
    have := congrArg List.length hp
    simpa using this
  subst hl
  rw [List.range_succ, List.map_append] at hp
  obtain ⟨h1, h2⟩ := List.append_inj hp (by simp)
  have hv : x.val = init.length := by simpa using h2
  rw [lastP_snoc, gen_first x.isLt (fun j hj => before_k h1 hi j (by omega)) hb]
def caE (nm : List UInt8) (x : Fin 256) : Array Value := #[.agg ((genX nm x.val).map bv).toArray]
set_option maxHeartbeats 4000000 in
set_option maxRecDepth 100000 in
theorem cand_in (n l Bs n₀ : Nat) (nm : List UInt8) (hnm : nm.length = 32) (hb : Bs < n₀) (htb : 1 < n₀) (J Jx : List (Fin 256) → World → Prop) (W : World) (hnW : n₀ ≤ W.heap.size) (hJ : AbidesFrom W.heap.size J) (hJx : AbidesFrom W.heap.size Jx)
    (hY : ∀ pre x W1, J pre W1 → pre.length < 256 → YieldAt Fence.wide (n - 1) Tryd.prog l (caE nm x) W1 fun e W' => (e = .returned (.bool true) ∧ J (pre ++ [x]) W' ∧ KpL n₀ [] W1 W') ∨ (e = .returned (.bool false) ∧ Jx (pre ++ [x]) W'))
    (hS : Blk W Bs 23 (nm.map bv).toArray) (ht : Sh.TabAt W 1) (h0 : J [] W) :
    CallsIn Fence.wide n Tryd.prog 32 #[.func (.yield l) #[] #[], .pointer (some ⟨Bs, 0, none⟩)] W fun e W' => (∃ v, e = .returned v) ∧ ((∃ ys : List (Fin 256), ys.map (·.1) = List.range 256 ∧ J ys W') ∨ (∃ pre : List (Fin 256), (∃ k, k ≤ 256 ∧ pre.map (·.1) = List.range k) ∧ Jx pre W')) := by
  refine Sy.enterP (args := [.func (.yield l) #[] #[], .pointer (some ⟨Bs, 0, none⟩)]) Tryd.func32 rfl (Nat.le_of_ble_eq_true (by kernel_rfl)) ?_
  refine Sy.seq ?_
  refine Sy.region ?_
  refine Sy.step (by kernel_rfl) (.int .i64 0) (Quiet.pure (fun _ => by kernel_rfl)) ?_
  refine Sy.nil ?_
  refine Sy.then_ ?_
  refine Sy.block ?_
  refine Sy.loopP 256 (fun k1 => [(0, .func (.yield l) #[] #[]), (1, .pointer (some ⟨Bs, 0, none⟩)), (5, .int .i64 ((k1 : Nat) : Int))]) (fun k1 w => ∃ pre : List (Fin 256), pre.map (·.1) = List.range k1 ∧ J pre w ∧ Below n₀ W w) (all_cons (by kernel_rfl) (all_cons (by kernel_rfl) (all_cons (by kernel_rfl) all_nil))) (fun w hg => ⟨[], rfl, abides_gr hJ h0 hg, Below.mono hg hnW⟩) (fun k1 wr hk1 hz => ?_)
  obtain ⟨pre, hpre, hj, hbw⟩ := hz
  have hlen : pre.length = k1 := by have := congrArg List.length hpre; rwa [List.length_map, List.length_range] at this
  have hSr := hS.below hbw hb
  have htr := ht.below hbw htb
  refine Sy.seq ?_
  refine Sy.region ?_
  obtain ⟨b1, hb1⟩ : ∃ z : Bool, z = decide (k1 < 256) := ⟨_, rfl⟩
  refine Sy.step (by kernel_rfl) (.bool b1) (Quiet.pure (exec_int .lss _ _ _ .i64 _ _ _ rfl rfl rfl (int_lss _ _ _ _ _ (by rw [hb1]; exact decide_eq_decide.2 (by omega))))) ?_
  refine Sy.nil ?_
  refine Sy.then_ ?_
  refine Sy.seq ?_
  cases b1
  · have lb1 : ¬ (k1 < 256) := of_decide_eq_false hb1.symm
    refine Sy.cond_f (by kernel_rfl) (by kernel_rfl) ?_
    refine Sy.exit ?_
    refine Sy.then_exit ?_
    refine Sy.then_exit ?_
    obtain rfl : k1 = 256 := by omega
    refine Sy.in_exit ?_
    exact Sy.retP rfl (fun v w3 hg => ⟨⟨_, rfl⟩, .inl ⟨pre, hpre, abides_gr hJ hj hg⟩⟩) (.inr rfl)
  · have lb1 : k1 < 256 := of_decide_eq_true hb1.symm
    refine Sy.cond_t (by kernel_rfl) (by kernel_rfl) ?_
    refine Sy.skip ?_
    refine Sy.then_ ?_
    refine Sy.seq ?_
    have hx : k1 < 256 := by omega
    refine Sy.block ?_
    refine Sy.seq ?_
    refine Sy.region ?_
    refine Sy.step (by kernel_rfl) (.int .i64 ((k1 : Nat) : Int)) (Quiet.pure (fun _ => by kernel_rfl)) ?_
    refine Sy.step (by kernel_rfl) (.int .i64 ((k1 : Nat) : Int)) (Quiet.pure (fun _ => by kernel_rfl)) ?_
    refine Sy.nil ?_
    refine Sy.then_ ?_
    refine Sy.seq ?_
    refine Sy.region ?_
    refine Sy.step (by kernel_rfl) (.slice (some ⟨Bs, 0, none⟩) 32 32) (Quiet.pure (fun _ => by kernel_rfl)) ?_
    refine Sy.step (by kernel_rfl) (.int .i64 ((k1 : Nat) : Int)) (Quiet.pure (fun _ => by kernel_rfl)) ?_
    refine Sy.step (by kernel_rfl) (bv (UInt8.ofNat k1)) (Quiet.pure (fun w => conv_u8 w _ _ _ k1 (by omega) rfl rfl)) ?_
    refine Sy.make (by kernel_rfl) 5 #[bv (UInt8.ofNat k1)] (fun g => .slice (some ⟨g, 0, none⟩) 1 1) (fun _ => by kernel_rfl) (fun g0 => ?_)
    refine Sy.make (by kernel_rfl) 34 #[.slice (some ⟨Bs, 0, none⟩) 32 32, .slice (some ⟨g0, 0, none⟩) 1 1] (fun g => .slice (some ⟨g, 0, none⟩) 2 2) (fun _ => by kernel_rfl) (fun g1 => ?_)
    refine Sy.step (by kernel_rfl) (.agg ((genX nm k1).map bv).toArray) (Quiet.callS 33 #[.string genNm, .slice (some ⟨g1, 0, none⟩) 2 2] (fun _ => by kernel_rfl) (fun w hw => tag_gen nm hnm k1 32 g0 g1 _ _ _ Sh.tagged_any w (Sh.Src.of_blk (hSr.below hw.below hSr.lt)) (by decide) (by decide) (hw.get (i := 0) rfl) (hw.get (i := 1) rfl) (htr.below hw.below htr.lt))) ?_
    refine Sy.make (by kernel_rfl) 23 (.int .u8 0 :: .int .u8 0 :: [.int .u8 0, .int .u8 0, .int .u8 0, .int .u8 0, .int .u8 0, .int .u8 0, .int .u8 0, .int .u8 0, .int .u8 0, .int .u8 0, .int .u8 0, .int .u8 0, .int .u8 0, .int .u8 0, .int .u8 0, .int .u8 0, .int .u8 0, .int .u8 0, .int .u8 0, .int .u8 0, .int .u8 0, .int .u8 0, .int .u8 0, .int .u8 0, .int .u8 0, .int .u8 0, .int .u8 0, .int .u8 0, .int .u8 0, .int .u8 0]).toArray ptr (fun _ => by kernel_rfl) (fun g2 => ?_)
    refine Sy.write (by kernel_rfl) 2 g2 23 (.int .u8 0 :: .int .u8 0 :: [.int .u8 0, .int .u8 0, .int .u8 0, .int .u8 0, .int .u8 0, .int .u8 0, .int .u8 0, .int .u8 0, .int .u8 0, .int .u8 0, .int .u8 0, .int .u8 0, .int .u8 0, .int .u8 0, .int .u8 0, .int .u8 0, .int .u8 0, .int .u8 0, .int .u8 0, .int .u8 0, .int .u8 0, .int .u8 0, .int .u8 0, .int .u8 0, .int .u8 0, .int .u8 0, .int .u8 0, .int .u8 0, .int .u8 0, .int .u8 0]).toArray ((genX nm k1).map bv).toArray (by kernel_rfl) (Writes.store 0 23 ((genX nm k1).map bv).toArray _ _ rfl (by kernel_rfl) (by kernel_rfl) (by rw [key_sz (genX nm k1) (genX_length nm k1)]; kernel_rfl) (by rw [key_sz (genX nm k1) (genX_length nm k1)]; exact Nat.le_of_ble_eq_true (by kernel_rfl)) (key_one _) (key_set _ _ (by rw [(genX_length nm k1)]; kernel_rfl))) ?_
    refine Sy.nil ?_
    refine Sy.then_ ?_
    refine Sy.seq ?_
    refine Sy.regionY 2 (by rintro ⟨_, _, ⟨_, hv⟩, _⟩; cases hv) (by kernel_rfl) ?_
    refine Sy.step (by kernel_rfl) (.func (.yield l) #[] #[]) (Quiet.pure (fun _ => by kernel_rfl)) ?_
    refine Sy.step (by kernel_rfl) (.agg ((genX nm k1).map bv).toArray) (Quiet.load 2 g2 0 32 23 23 ((genX nm k1).map bv).toArray _ _ rfl (by kernel_rfl) (by kernel_rfl) Tryd.underlying23 rfl (by kernel_rfl) _ (key_whole (genX nm k1) (genX_length nm k1)) (key_size (genX nm k1) (genX_length nm k1))) ?_
    refine Sy.nil ?_
    refine Sy.yieldX (ro := none) rfl (by rintro ⟨_, _, ⟨_, hv⟩, _⟩; cases hv) (by kernel_rfl) (by kernel_rfl) l #[.agg ((genX nm k1).map bv).toArray] (fun _ => by kernel_rfl) (fun e W' => (e = .returned (.bool true) ∧ J (pre ++ [⟨k1, hx⟩]) W' ∧ Below n₀ W W') ∨ (e = .returned (.bool false) ∧ Jx (pre ++ [⟨k1, hx⟩]) W')) (fun w hg => yield_mono (hY pre ⟨k1, hx⟩ w (abides_gr hJ hj hg) (by omega)) (fun e w' q => q.imp (fun q => ⟨q.1, q.2.1, (hbw.trans (Below.mono hg (Nat.le_trans hnW hbw.size))).trans q.2.2.1⟩) id)) (fun e w' q => q.elim (fun q => ⟨_, q.1⟩) (fun q => ⟨_, q.1⟩)) rfl (fun w2 b hr => ?_)
    cases b
    · have hx2 := hr.elim (fun q => by cases q.1) (fun q => q.2)
      refine Sy.step (by kernel_rfl) (.bool true) (Quiet.pure (fun _ => by kernel_rfl)) ?_
      refine Sy.nil ?_
      refine Sy.then_ ?_
      refine Sy.cond_t (by kernel_rfl) (by kernel_rfl) ?_
      refine Sy.ret ?_
      refine Sy.in_ret ?_
      refine Sy.then_ret ?_
      refine Sy.then_ret ?_
      refine Sy.in_ret ?_
      exact Sy.retP rfl (fun v w3 hg => ⟨⟨_, rfl⟩, .inr ⟨pre ++ [⟨k1, hx⟩], ⟨k1 + 1, by omega, by rw [List.map_append, hpre, List.range_succ]; rfl⟩, abides_gr hJx hx2 hg⟩⟩) (.inl rfl)
    · clear hbw hj
      obtain ⟨hj, hbw⟩ := hr.elim (fun q => q.2) (fun q => by cases q.1)
      refine Sy.step (by kernel_rfl) (.bool false) (Quiet.pure (fun _ => by kernel_rfl)) ?_
      refine Sy.nil ?_
      refine Sy.then_ ?_
      refine Sy.cond_f (by kernel_rfl) (by kernel_rfl) ?_
      refine Sy.skip ?_
      refine Sy.in_ ?_
      refine Sy.then_ ?_
      refine Sy.region ?_
      refine Sy.step (by kernel_rfl) (.int .i64 ((k1 + 1 : Nat) : Int)) (Quiet.pure (exec_int .add _ _ _ .i64 _ _ _ rfl rfl rfl (int_add _ _ _ _ _ ((wrap_i64 (by omega) (by omega)).trans (by omega))))) ?_
      refine Sy.step (by kernel_rfl) (.int .i64 ((k1 + 1 : Nat) : Int)) (Quiet.pure (fun _ => by kernel_rfl)) ?_
      refine Sy.nil ?_
      exact Sy.againP (by omega) (all_cons (by kernel_rfl) (all_cons (by kernel_rfl) (all_cons (by kernel_rfl) all_nil))) (fun w3 hg => ⟨pre ++ [⟨k1, hx⟩], by rw [List.map_append, hpre, List.range_succ]; rfl, abides_gr hJ hj hg, hbw.trans (Below.mono hg (Nat.le_trans hnW hbw.size))⟩)
theorem cand_stops (n Bs : Nat) (nm : List UInt8) (hnm : nm.length = 32) (w0 w : World) (hb : Below w0.heap.size w0 w) (hS : Blk w0 Bs 23 (nm.map bv).toArray) (ht : Sh.TabAt w0 1) :
    SeqStopsK Fence.wide n Tryd.prog 32 #[.pointer (some ⟨Bs, 0, none⟩)] (caE nm) (KpL w0.heap.size []) (fun ys => ys.map (·.1) = List.range 256) (fun pre => ∃ k, k ≤ 256 ∧ pre.map (·.1) = List.range k) 256 w := fun l J Jx W hW hJ hJx hY h0 => by
  have hS1 := hS.below hb hS.lt
  have ht1 := ht.below hb ht.lt
  exact cand_in n l Bs w0.heap.size nm hnm hS.lt ht.lt J Jx W (Nat.le_trans hb.size hW.size) hJ hJx hY (hS1.below hW hS1.lt) (ht1.below hW ht1.lt) h0
set_option maxHeartbeats 1000000 in
set_option maxRecDepth 100000 in
theorem cands_any (w : World) (nm : List UInt8) :
    Calls Tryd.prog 14 #[.agg (nm.map bv).toArray] w (GetsN w fun v M => ∃ g1, v = .func (.func 32) #[] #[.pointer (some ⟨g1, 0, none⟩)] ∧ M = [(g1, 23, (nm.map bv).toArray)]) := by
  go_enter Tryd.func14, Tryd.ntmps14
  go_wp2
  go_ret
  refine ⟨_, _, rfl, ⟨_, rfl, rfl⟩, (Below.refl _ _).alloc (Nat.le_refl _) _, fun g t cs hm => ?_, by simp⟩
  simp only [List.mem_singleton, Prod.mk.injEq] at hm
  obtain ⟨rfl, rfl, rfl⟩ := hm
  exact ⟨Nat.le_refl _, Blk.new w _ _⟩
end Go.Proofs.YtneeefinaejgcaaDoor.Cu

end
section
namespace Go.Proofs.YtneeefinaejgcaaDoor.Cu
open Go.RowKit Go.Proofs.YtneeefinaejgcaaDoor Go.Proofs.YtneeefinaejgcaaDoor.Sy

set_option maxHeartbeats 4000000 in
set_option maxRecDepth 100000 in
theorem first_any (w : World) (Bs : Nat) (nm : List UInt8) (hnm : nm.length = 32) (hS : Blk w Bs 23 (nm.map bv).toArray) (ht : Sh.TabAt w 1) : Calls Tryd.prog 13 #[.func (.func 32) #[] #[.pointer (some ⟨Bs, 0, none⟩)]] w (Gets w (ptv (genP nm))) := by
  refine Sy.enterM (args := [.func (.func 32) #[] #[.pointer (some ⟨Bs, 0, none⟩)]]) Tryd.func13 rfl (Nat.le_of_ble_eq_true (by kernel_rfl)) ?_
  refine Sy.seq ?_
  refine Sy.region ?_
  refine Sy.make (by kernel_rfl) 28 (pcs 0 0 false) ptr (fun _ => by kernel_rfl) (fun g0 => ?_)
  refine Sy.nil ?_
  refine Sy.then_ ?_
  refine Sy.seq ?_
  refine Sy.seq ?_
  refine Sy.region ?_
  refine Sy.step (by kernel_rfl) (.func (.func 32) #[] #[.pointer (some ⟨Bs, 0, none⟩)]) (Quiet.pure (fun _ => by kernel_rfl)) ?_
  refine Sy.nil ?_
  refine Sy.then_ ?_
  refine Sy.block ?_
  refine Sy.rangeF (α := Fin 256) 32 #[.pointer (some ⟨Bs, 0, none⟩)] (by kernel_rfl) (by kernel_rfl) (enters_of Tryd.func32 (by kernel_rfl) rfl) (caE nm) [] (fun ys => ys.map (·.1) = List.range 256) (fun pre => ∃ k, k ≤ 256 ∧ pre.map (·.1) = List.range k) 256 (fun _ => rfl) (by decide) [g0] (fun pre => ∀ y ∈ pre, liftB (genX nm y.val) = false) ((fun _ h => by cases h)) (fun pre => [(g0, 28, (pcs 0 0 false))]) (fun pre => [(g0, 28, (pcs (qX (lastP nm pre)) (qY (lastP nm pre)) (qI (lastP nm pre))))]) (fun pre => GHx nm pre) [true] (by kernel_rfl) (fun _ => rfl) ?_ ?_ 1 (fun x gs => [(2, .pointer (some ⟨g0, 0, none⟩)), (3, .pointer (some ⟨(gs.getD 0 0), 0, none⟩))]) (fun x gs => [(gs.getD 0 0, 39, ((genX nm x.val).map bv).toArray)]) (fun x gs h => by match gs, h with | [_], _ => rfl) ?_ ?_ ?_ ?_
  · intro w hw
    exact ⟨w, Below.refl _ _, cand_stops 8 Bs nm hnm _ w hw.below hS ht⟩
  · intro p hp pre
    cases hp
  · intro l fz pre x
    refine Sy.regionR (by rintro ⟨_, _, h⟩; exact h) (by kernel_rfl) ⟨_, rfl⟩ ?_
    refine Sy.make (by kernel_rfl) 39 (.int .u8 0 :: .int .u8 0 :: [.int .u8 0, .int .u8 0, .int .u8 0, .int .u8 0, .int .u8 0, .int .u8 0, .int .u8 0, .int .u8 0, .int .u8 0, .int .u8 0, .int .u8 0, .int .u8 0, .int .u8 0, .int .u8 0, .int .u8 0, .int .u8 0, .int .u8 0, .int .u8 0, .int .u8 0, .int .u8 0, .int .u8 0, .int .u8 0, .int .u8 0, .int .u8 0, .int .u8 0, .int .u8 0, .int .u8 0, .int .u8 0, .int .u8 0, .int .u8 0]).toArray ptr (fun _ => by kernel_rfl) (fun g1 => ?_)
    refine Sy.write (by kernel_rfl) 1 g1 39 (.int .u8 0 :: .int .u8 0 :: [.int .u8 0, .int .u8 0, .int .u8 0, .int .u8 0, .int .u8 0, .int .u8 0, .int .u8 0, .int .u8 0, .int .u8 0, .int .u8 0, .int .u8 0, .int .u8 0, .int .u8 0, .int .u8 0, .int .u8 0, .int .u8 0, .int .u8 0, .int .u8 0, .int .u8 0, .int .u8 0, .int .u8 0, .int .u8 0, .int .u8 0, .int .u8 0, .int .u8 0, .int .u8 0, .int .u8 0, .int .u8 0, .int .u8 0, .int .u8 0]).toArray ((genX nm x.val).map bv).toArray (by kernel_rfl) (Writes.store 0 39 ((genX nm x.val).map bv).toArray _ _ rfl (by kernel_rfl) (by kernel_rfl) (by rw [key_sz (genX nm x.val) (genX_length nm x.val)]; kernel_rfl) (by rw [key_sz (genX nm x.val) (genX_length nm x.val)]; exact Nat.le_of_ble_eq_true (by kernel_rfl)) (key_one _) (key_set _ _ (by rw [(genX_length nm x.val)]; kernel_rfl))) ?_
    refine Sy.nil ?_
    exact Sy.apN [g1] rfl (all_cons (by kernel_rfl) (all_cons (by kernel_rfl) all_nil)) [true, true] (by kernel_rfl)
  · intro l fz pre x gs hgs hlen hH
    obtain ⟨y0, rfl⟩ : ∃ y, gs = [y] := by match gs, hgs with | [y], _ => exact ⟨y, rfl⟩
    refine Sy.block ?_
    refine Sy.seq ?_
    refine Sy.regionR (by rintro ⟨_, _, h⟩; exact h) (by kernel_rfl) ⟨_, rfl⟩ ?_
    refine Sy.step (by kernel_rfl) (.agg ((genX nm x.val).map bv).toArray) (Quiet.load 1 y0 0 32 39 39 ((genX nm x.val).map bv).toArray _ _ rfl (by kernel_rfl) (by kernel_rfl) Tryd.underlying39 rfl (by kernel_rfl) _ (key_whole (genX nm x.val) (genX_length nm x.val)) (key_size (genX nm x.val) (genX_length nm x.val))) ?_
    obtain ⟨b1, hb1⟩ : ∃ z : Bool, z = liftB (genX nm x.val) := ⟨_, rfl⟩
    refine Sy.step (by kernel_rfl) (.tuple #[pv (qX (liftP (genX nm x.val))) (qY (liftP (genX nm x.val))) (qI (liftP (genX nm x.val))), .bool b1]) (Quiet.call 29 #[.agg ((genX nm x.val).map bv).toArray] (fun _ => by kernel_rfl) (fun w => by rw [← ptv_q, hb1]; exact lift_any w (genX nm x.val) (genX_length _ _))) ?_
    refine Sy.step (by kernel_rfl) (.tuple #[pv (qX (liftP (genX nm x.val))) (qY (liftP (genX nm x.val))) (qI (liftP (genX nm x.val))), .bool b1]) (Quiet.pure (fun _ => by kernel_rfl)) ?_
    refine Sy.step (by kernel_rfl) (pv (qX (liftP (genX nm x.val))) (qY (liftP (genX nm x.val))) (qI (liftP (genX nm x.val)))) (Quiet.pure (fun _ => by kernel_rfl)) ?_
    refine Sy.step (by kernel_rfl) (.bool b1) (Quiet.pure (fun _ => by kernel_rfl)) ?_
    refine Sy.make (by kernel_rfl) 28 (pcs 0 0 false) ptr (fun _ => by kernel_rfl) (fun g2 => ?_)
    refine Sy.write (by kernel_rfl) 2 g2 28 (pcs 0 0 false) (pcs (qX (liftP (genX nm x.val))) (qY (liftP (genX nm x.val))) (qI (liftP (genX nm x.val)))) (by kernel_rfl) (Writes.store 0 28 (pcs (qX (liftP (genX nm x.val))) (qY (liftP (genX nm x.val))) (qI (liftP (genX nm x.val)))) _ _ rfl (by kernel_rfl) (by kernel_rfl) (by kernel_rfl) (Nat.le_of_ble_eq_true (by kernel_rfl)) (by kernel_rfl) (by kernel_rfl)) ?_
    refine Sy.step (by kernel_rfl) (.bool b1) (Quiet.pure (fun _ => by kernel_rfl)) ?_
    refine Sy.nil ?_
    refine Sy.then_ ?_
    refine Sy.seq ?_
    refine Sy.regionR (by rintro ⟨_, _, h⟩; exact h) (by kernel_rfl) ⟨_, rfl⟩ ?_
    refine Sy.step (by kernel_rfl) (.bool b1) (Quiet.pure (fun _ => by kernel_rfl)) ?_
    refine Sy.nil ?_
    refine Sy.then_ ?_
    cases b1
    · refine Sy.cond_f (by kernel_rfl) (by kernel_rfl) ?_
      refine Sy.skip ?_
      refine Sy.in_ ?_
      exact Sy.bpN [true, false, false] (M := [(g0, 28, (pcs 0 0 false))]) (by kernel_rfl) (bcons rfl rfl) (all_snoc hH hb1)
    · refine Sy.cond_t (by kernel_rfl) (by kernel_rfl) ?_
      refine Sy.seq ?_
      refine Sy.regionR (by rintro ⟨_, _, h⟩; exact h) (by kernel_rfl) ⟨_, rfl⟩ ?_
      refine Sy.step (by kernel_rfl) (pv (qX (liftP (genX nm x.val))) (qY (liftP (genX nm x.val))) (qI (liftP (genX nm x.val)))) (Quiet.load 2 g2 0 9 28 28 (pcs (qX (liftP (genX nm x.val))) (qY (liftP (genX nm x.val))) (qI (liftP (genX nm x.val)))) _ _ rfl (by kernel_rfl) (by kernel_rfl) Tryd.underlying28 rfl (by kernel_rfl) _ (by kernel_rfl) (Nat.le_of_ble_eq_true (by kernel_rfl))) ?_
      refine Sy.write (by kernel_rfl) 0 g0 28 (pcs 0 0 false) (pcs (qX (liftP (genX nm x.val))) (qY (liftP (genX nm x.val))) (qI (liftP (genX nm x.val)))) (by kernel_rfl) (Writes.store 0 28 (pcs (qX (liftP (genX nm x.val))) (qY (liftP (genX nm x.val))) (qI (liftP (genX nm x.val)))) _ _ rfl (by kernel_rfl) (by kernel_rfl) (by kernel_rfl) (Nat.le_of_ble_eq_true (by kernel_rfl)) (by kernel_rfl) (by kernel_rfl)) ?_
      refine Sy.nil ?_
      refine Sy.then_ ?_
      refine Sy.ret ?_
      refine Sy.in_ret ?_
      exact Sy.bpR [true, false, false] (M := [(g0, 28, (pcs (qX (liftP (genX nm x.val))) (qY (liftP (genX nm x.val))) (qI (liftP (genX nm x.val)))))]) (by kernel_rfl) (bcons (beq (by rw [lastP_snoc])) rfl) (⟨pre, x, rfl, hH, hb1.symm⟩)
  · intro D fz xs hS_ hH hD hm
    have hgn := gen_none (before_k hS_ hH)
    refine Sy.in_ ?_
    refine Sy.then_ ?_
    refine Sy.seq ?_
    refine Sy.region ?_
    refine Sy.step (by kernel_rfl) (pv (qX bP) (qY bP) (qI bP)) (Quiet.call 15 #[] (fun _ => by kernel_rfl) (fun w => by rw [← ptv_q]; exact base_c w)) ?_
    refine Sy.write (by kernel_rfl) 0 g0 28 (pcs 0 0 false) (pcs (qX bP) (qY bP) (qI bP)) (by kernel_rfl) (Writes.store 0 28 (pcs (qX bP) (qY bP) (qI bP)) _ _ rfl (by kernel_rfl) (by kernel_rfl) (by kernel_rfl) (Nat.le_of_ble_eq_true (by kernel_rfl)) (by kernel_rfl) (by kernel_rfl)) ?_
    refine Sy.nil ?_
    refine Sy.then_ ?_
    refine Sy.ret ?_
    rw [show (ptv (genP nm) : Value) = pv (qX bP) (qY bP) (qI bP) from by rw [← ptv_q, hgn]]
    exact Sy.retM1 (v := pv (qX bP) (qY bP) (qI bP)) rfl (.inl (Res.cell (ty' := 28) g0 0 (pcs (qX bP) (qY bP) (qI bP)) _ (by kernel_rfl) (by kernel_rfl) Tryd.underlying28 rfl (by kernel_rfl) (by kernel_rfl))) hD hm
  · intro D fz pre hS_ hx hD hm
    have hgs := gen_stop hS_ hx
    refine Sy.in_ret ?_
    refine Sy.then_ret ?_
    rw [show (ptv (genP nm) : Value) = pv (qX (lastP nm pre)) (qY (lastP nm pre)) (qI (lastP nm pre)) from by rw [← ptv_q, hgs]]
    exact Sy.retM1 (v := pv (qX (lastP nm pre)) (qY (lastP nm pre)) (qI (lastP nm pre))) rfl (.inl (Res.cell (ty' := 28) g0 0 (pcs (qX (lastP nm pre)) (qY (lastP nm pre)) (qI (lastP nm pre))) _ (by kernel_rfl) (by kernel_rfl) Tryd.underlying28 rfl (by kernel_rfl) (by kernel_rfl))) hD hm
set_option maxHeartbeats 4000000 in
set_option maxRecDepth 100000 in
theorem gen_any (w : World) (nm : List UInt8) (hnm : nm.length = 32) (ht : Sh.TabAt w 1) : Calls Tryd.prog 5 #[.agg (nm.map bv).toArray] w (Gets w (ptv (genP nm))) := by
  refine Sy.enter (args := [.agg (nm.map bv).toArray]) Tryd.func5 rfl (Nat.le_of_ble_eq_true (by kernel_rfl)) ?_
  refine Sy.seq ?_
  refine Sy.region ?_
  refine Sy.make (by kernel_rfl) 23 (nm.map bv).toArray ptr (fun _ => by kernel_rfl) (fun g0 => ?_)
  refine Sy.make (by kernel_rfl) 28 (pcs 0 0 false) ptr (fun _ => by kernel_rfl) (fun g1 => ?_)
  refine Sy.nil ?_
  refine Sy.then_ ?_
  refine Sy.seq ?_
  refine Sy.region ?_
  refine Sy.step (by kernel_rfl) (.agg (nm.map bv).toArray) (Quiet.load 0 g0 0 32 23 23 (nm.map bv).toArray _ _ rfl (by kernel_rfl) (by kernel_rfl) Tryd.underlying23 rfl (by kernel_rfl) _ (key_whole nm hnm) (key_size nm hnm)) ?_
  refine Sy.callN (by kernel_rfl) 14 #[.agg (nm.map bv).toArray] (fun _ => by kernel_rfl) (fun vq Mq => ∃ g1, vq = .func (.func 32) #[] #[.pointer (some ⟨g1, 0, none⟩)] ∧ Mq = [(g1, 23, (nm.map bv).toArray)]) (fun w _ => cands_any w nm) (fun vq Mq hR0 => ?_)
  obtain ⟨u1, rfl, rfl⟩ := hR0
  refine Sy.step (by kernel_rfl) (pv (qX (genP nm)) (qY (genP nm)) (qI (genP nm))) (Quiet.callS 13 #[.func (.func 32) #[] #[.pointer (some ⟨u1, 0, none⟩)]] (fun _ => by kernel_rfl) (fun w hw => by rw [← ptv_q]; exact first_any w u1 nm hnm (hw.get (i := 2) rfl) (ht.below hw.below ht.lt))) ?_
  refine Sy.write (by kernel_rfl) 1 g1 28 (pcs 0 0 false) (pcs (qX (genP nm)) (qY (genP nm)) (qI (genP nm))) (by kernel_rfl) (Writes.store 0 28 (pcs (qX (genP nm)) (qY (genP nm)) (qI (genP nm))) _ _ rfl (by kernel_rfl) (by kernel_rfl) (by kernel_rfl) (Nat.le_of_ble_eq_true (by kernel_rfl)) (by kernel_rfl) (by kernel_rfl)) ?_
  refine Sy.nil ?_
  refine Sy.then_ ?_
  refine Sy.ret ?_
  rw [show (ptv (genP nm) : Value) = pv (qX (genP nm)) (qY (genP nm)) (qI (genP nm)) from ptv_q _]
  exact Sy.ret1 (v := pv (qX (genP nm)) (qY (genP nm)) (qI (genP nm))) rfl (.inl (Res.cell (ty' := 28) g1 1 (pcs (qX (genP nm)) (qY (genP nm)) (qI (genP nm))) _ (by kernel_rfl) (by kernel_rfl) Tryd.underlying28 rfl (by kernel_rfl) (by kernel_rfl)))
end Go.Proofs.YtneeefinaejgcaaDoor.Cu

end
section
namespace Go.Proofs.YtneeefinaejgcaaDoor.Cu
open Go.RowKit Go.Proofs.YtneeefinaejgcaaDoor Go.Proofs.YtneeefinaejgcaaDoor.Sy

theorem textN_any (w : World) (nm : List UInt8) (hnm : nm.length = 32) : Calls Tryd.prog 21 #[.agg (nm.map bv).toArray] w (GetsN w (fun vq Mq => ∃ (g : Nat) (sp : List Value) (cap : Nat), vq = .slice (some ⟨g, 0, none⟩) 32 cap ∧ (32 ≤ cap ∧ cap ≤ 9223372036854775807) ∧ Mq = [(g, 5, (nm.map bv ++ sp).toArray)])) := by
  refine (Sh.textR_any w nm hnm).mono ?_
  rintro e w' ⟨g, cap, rfl, ho, hl, hb⟩
  unfold Sh.OwnB at ho
  rw [hnm] at ho
  rcases ho.2 with ⟨h0, _⟩ | ⟨g', cap', cur, hv, hg, hk, q3, q4, q5, q6⟩
  · cases h0
  · cases hv
    have hc : cur = (nm.map bv ++ cur.toList.drop 32).toArray := by
      rw [Nat.mul_one] at q6
      rw [← q6, List.take_append_drop]
    refine ⟨_, [(g, 5, cur)], rfl, ⟨g, cur.toList.drop 32, cap, rfl, ⟨by omega, by simp only [maxLen] at q4; omega⟩, by rw [← hc]⟩, hb, fun g1 t1 cs1 hm => ?_, by simp⟩
    simp only [List.mem_singleton, Prod.mk.injEq] at hm
    obtain ⟨rfl, rfl, rfl⟩ := hm
    exact ⟨hg, hk⟩
theorem src_own {w : World} {g : Nat} {t : TypeId} {m : List UInt8} {sp : List Value} (hb : Blk w g t (m.map bv ++ sp).toArray) : Sh.Src w (some ⟨g, 0, none⟩) m := fun _ => ⟨g, 0, rfl, hb.lt, fun j u hj => by
  rw [Nat.zero_add]
  refine (hb.cell j).trans ?_
  have hl := (List.getElem?_eq_some_iff.1 hj).1
  rw [List.getElem?_toArray, List.getElem?_append_left (by rw [List.length_map]; exact hl), List.getElem?_map, hj]
  rfl⟩
set_option maxHeartbeats 4000000 in
set_option maxRecDepth 100000 in
theorem genR_any (w : World) (nm : List UInt8) (hnm : nm.length = 32) (ht : Sh.TabAt w 0) : Calls Tryd.prog 7 #[.agg (nm.map bv).toArray] w (Gets w (ptv (genP nm))) := by
  refine Sy.enter (args := [.agg (nm.map bv).toArray]) Tryd.func7 rfl (Nat.le_of_ble_eq_true (by kernel_rfl)) ?_
  refine Sy.seq ?_
  refine Sy.region ?_
  refine Sy.make (by kernel_rfl) 23 (nm.map bv).toArray ptr (fun _ => by kernel_rfl) (fun g0 => ?_)
  refine Sy.make (by kernel_rfl) 28 (pcs 0 0 false) ptr (fun _ => by kernel_rfl) (fun g1 => ?_)
  refine Sy.nil ?_
  refine Sy.then_ ?_
  refine Sy.seq ?_
  refine Sy.seq ?_
  refine Sy.region ?_
  refine Sy.step (by kernel_rfl) (.int .i64 0) (Quiet.pure (fun _ => by kernel_rfl)) ?_
  refine Sy.nil ?_
  refine Sy.then_ ?_
  refine Sy.block ?_
  refine Sy.loopH 256 (fun k1 => ∀ j, j < k1 → liftB (genX nm j) = false) (fun k1 => [(1, .pointer (some ⟨g0, 0, none⟩)), (2, .pointer (some ⟨g1, 0, none⟩)), (3, .int .i64 ((k1 : Nat) : Int))]) (fun k1 => [(g0, 23, (nm.map bv).toArray), (g1, 28, (pcs 0 0 false))]) [true, true] (M := [(g0, 23, (nm.map bv).toArray), (g1, 28, (pcs 0 0 false))]) ((fun j hj => absurd hj (Nat.not_lt_zero j))) (all_cons (by kernel_rfl) (all_cons (by kernel_rfl) (all_cons (by kernel_rfl) all_nil))) (by kernel_rfl) (bcons rfl (bcons rfl rfl)) (fun k1 hk1 hh => ?_)
  refine Sy.seq ?_
  refine Sy.seq ?_
  refine Sy.region ?_
  refine Sy.step (by kernel_rfl) (.int .i64 ((k1 : Nat) : Int)) (Quiet.pure (fun _ => by kernel_rfl)) ?_
  obtain ⟨b1, hb1⟩ : ∃ z : Bool, z = decide (k1 < 256) := ⟨_, rfl⟩
  refine Sy.step (by kernel_rfl) (.bool b1) (Quiet.pure (exec_int .lss _ _ _ .i64 _ _ _ rfl rfl rfl (int_lss _ _ _ _ _ (by rw [hb1]; exact decide_eq_decide.2 (by omega))))) ?_
  refine Sy.nil ?_
  refine Sy.then_ ?_
  cases b1
  · have lb1 : ¬ (k1 < 256) := of_decide_eq_false hb1.symm
    refine Sy.cond_f (by kernel_rfl) (by kernel_rfl) ?_
    refine Sy.exit ?_
    refine Sy.then_exit ?_
    refine Sy.then_exit ?_
    obtain rfl : k1 = 256 := by omega
    refine Sy.in_exit ?_
    refine Sy.then_ ?_
    refine Sy.seq ?_
    refine Sy.region ?_
    refine Sy.step (by kernel_rfl) (pv (qX bP) (qY bP) (qI bP)) (Quiet.call 16 #[] (fun _ => by kernel_rfl) (fun w => by rw [← ptv_q]; exact baseR_c w)) ?_
    refine Sy.write (by kernel_rfl) 1 g1 28 (pcs 0 0 false) (pcs (qX bP) (qY bP) (qI bP)) (by kernel_rfl) (Writes.store 0 28 (pcs (qX bP) (qY bP) (qI bP)) _ _ rfl (by kernel_rfl) (by kernel_rfl) (by kernel_rfl) (Nat.le_of_ble_eq_true (by kernel_rfl)) (by kernel_rfl) (by kernel_rfl)) ?_
    refine Sy.nil ?_
    refine Sy.then_ ?_
    refine Sy.ret ?_
    rw [show (ptv (genP nm) : Value) = pv (qX bP) (qY bP) (qI bP) from by rw [← ptv_q, gen_none hh]]
    exact Sy.ret1 (v := pv (qX bP) (qY bP) (qI bP)) rfl (.inl (Res.cell (ty' := 28) g1 1 (pcs (qX bP) (qY bP) (qI bP)) _ (by kernel_rfl) (by kernel_rfl) Tryd.underlying28 rfl (by kernel_rfl) (by kernel_rfl)))
  · have lb1 : k1 < 256 := of_decide_eq_true hb1.symm
    refine Sy.cond_t (by kernel_rfl) (by kernel_rfl) ?_
    refine Sy.skip ?_
    refine Sy.then_ ?_
    refine Sy.seq ?_
    refine Sy.block ?_
    refine Sy.seq ?_
    refine Sy.region ?_
    refine Sy.step (by kernel_rfl) (.agg (nm.map bv).toArray) (Quiet.load 0 g0 0 32 23 23 (nm.map bv).toArray _ _ rfl (by kernel_rfl) (by kernel_rfl) Tryd.underlying23 rfl (by kernel_rfl) _ (key_whole nm hnm) (key_size nm hnm)) ?_
    refine Sy.callN (by kernel_rfl) 21 #[.agg (nm.map bv).toArray] (fun _ => by kernel_rfl) (fun vq Mq => ∃ (g : Nat) (sp : List Value) (cap : Nat), vq = .slice (some ⟨g, 0, none⟩) 32 cap ∧ (32 ≤ cap ∧ cap ≤ 9223372036854775807) ∧ Mq = [(g, 5, (nm.map bv ++ sp).toArray)]) (fun w _ => textN_any w nm hnm) (fun vq Mq hR0 => ?_)
    obtain ⟨g9, sp9, cp9, rfl, hcp, rfl⟩ := hR0
    refine Sy.step (by kernel_rfl) (.int .i64 ((k1 : Nat) : Int)) (Quiet.pure (fun _ => by kernel_rfl)) ?_
    refine Sy.step (by kernel_rfl) (bv (UInt8.ofNat k1)) (Quiet.pure (fun w => conv_u8 w _ _ _ k1 (by omega) rfl rfl)) ?_
    refine Sy.make (by kernel_rfl) 5 #[bv (UInt8.ofNat k1)] (fun g => .slice (some ⟨g, 0, none⟩) 1 1) (fun _ => by kernel_rfl) (fun g2 => ?_)
    refine Sy.make (by kernel_rfl) 34 #[.slice (some ⟨g9, 0, none⟩) 32 cp9, .slice (some ⟨g2, 0, none⟩) 1 1] (fun g => .slice (some ⟨g, 0, none⟩) 2 2) (fun _ => by kernel_rfl) (fun g3 => ?_)
    refine Sy.step (by kernel_rfl) (.agg ((genX nm k1).map bv).toArray) (Quiet.callS 20 #[.string genNm, .slice (some ⟨g3, 0, none⟩) 2 2] (fun _ => by kernel_rfl) (fun w hw => tag_gen nm hnm k1 cp9 g2 g3 _ _ _ Sh.taggedR_any w (src_own (hw.get (i := 2) rfl)) hcp.1 hcp.2 (hw.get (i := 3) rfl) (hw.get (i := 4) rfl) (ht.below hw.below ht.lt))) ?_
    refine Sy.make (by kernel_rfl) 23 (.int .u8 0 :: .int .u8 0 :: [.int .u8 0, .int .u8 0, .int .u8 0, .int .u8 0, .int .u8 0, .int .u8 0, .int .u8 0, .int .u8 0, .int .u8 0, .int .u8 0, .int .u8 0, .int .u8 0, .int .u8 0, .int .u8 0, .int .u8 0, .int .u8 0, .int .u8 0, .int .u8 0, .int .u8 0, .int .u8 0, .int .u8 0, .int .u8 0, .int .u8 0, .int .u8 0, .int .u8 0, .int .u8 0, .int .u8 0, .int .u8 0, .int .u8 0, .int .u8 0]).toArray ptr (fun _ => by kernel_rfl) (fun g4 => ?_)
    refine Sy.write (by kernel_rfl) 5 g4 23 (.int .u8 0 :: .int .u8 0 :: [.int .u8 0, .int .u8 0, .int .u8 0, .int .u8 0, .int .u8 0, .int .u8 0, .int .u8 0, .int .u8 0, .int .u8 0, .int .u8 0, .int .u8 0, .int .u8 0, .int .u8 0, .int .u8 0, .int .u8 0, .int .u8 0, .int .u8 0, .int .u8 0, .int .u8 0, .int .u8 0, .int .u8 0, .int .u8 0, .int .u8 0, .int .u8 0, .int .u8 0, .int .u8 0, .int .u8 0, .int .u8 0, .int .u8 0, .int .u8 0]).toArray ((genX nm k1).map bv).toArray (by kernel_rfl) (Writes.store 0 23 ((genX nm k1).map bv).toArray _ _ rfl (by kernel_rfl) (by kernel_rfl) (by rw [key_sz (genX nm k1) (genX_length nm k1)]; kernel_rfl) (by rw [key_sz (genX nm k1) (genX_length nm k1)]; exact Nat.le_of_ble_eq_true (by kernel_rfl)) (key_one _) (key_set _ _ (by rw [(genX_length nm k1)]; kernel_rfl))) ?_
    refine Sy.nil ?_
    refine Sy.then_ ?_
    refine Sy.seq ?_
    refine Sy.region ?_
    refine Sy.step (by kernel_rfl) (.agg ((genX nm k1).map bv).toArray) (Quiet.load 5 g4 0 32 23 23 ((genX nm k1).map bv).toArray _ _ rfl (by kernel_rfl) (by kernel_rfl) Tryd.underlying23 rfl (by kernel_rfl) _ (key_whole (genX nm k1) (genX_length nm k1)) (key_size (genX nm k1) (genX_length nm k1))) ?_
    obtain ⟨b2, hb2⟩ : ∃ z : Bool, z = liftB (genX nm k1) := ⟨_, rfl⟩
    refine Sy.step (by kernel_rfl) (.tuple #[pv (qX (liftP (genX nm k1))) (qY (liftP (genX nm k1))) (qI (liftP (genX nm k1))), .bool b2]) (Quiet.call 22 #[.agg ((genX nm k1).map bv).toArray] (fun _ => by kernel_rfl) (fun w => by rw [← ptv_q, hb2]; exact liftR_any w (genX nm k1) (genX_length _ _))) ?_
    refine Sy.step (by kernel_rfl) (.tuple #[pv (qX (liftP (genX nm k1))) (qY (liftP (genX nm k1))) (qI (liftP (genX nm k1))), .bool b2]) (Quiet.pure (fun _ => by kernel_rfl)) ?_
    refine Sy.step (by kernel_rfl) (pv (qX (liftP (genX nm k1))) (qY (liftP (genX nm k1))) (qI (liftP (genX nm k1)))) (Quiet.pure (fun _ => by kernel_rfl)) ?_
    refine Sy.step (by kernel_rfl) (.bool b2) (Quiet.pure (fun _ => by kernel_rfl)) ?_
    refine Sy.make (by kernel_rfl) 28 (pcs 0 0 false) ptr (fun _ => by kernel_rfl) (fun g5 => ?_)
    refine Sy.write (by kernel_rfl) 6 g5 28 (pcs 0 0 false) (pcs (qX (liftP (genX nm k1))) (qY (liftP (genX nm k1))) (qI (liftP (genX nm k1)))) (by kernel_rfl) (Writes.store 0 28 (pcs (qX (liftP (genX nm k1))) (qY (liftP (genX nm k1))) (qI (liftP (genX nm k1)))) _ _ rfl (by kernel_rfl) (by kernel_rfl) (by kernel_rfl) (Nat.le_of_ble_eq_true (by kernel_rfl)) (by kernel_rfl) (by kernel_rfl)) ?_
    refine Sy.step (by kernel_rfl) (.bool b2) (Quiet.pure (fun _ => by kernel_rfl)) ?_
    refine Sy.nil ?_
    refine Sy.then_ ?_
    refine Sy.seq ?_
    refine Sy.region ?_
    refine Sy.step (by kernel_rfl) (.bool b2) (Quiet.pure (fun _ => by kernel_rfl)) ?_
    refine Sy.nil ?_
    refine Sy.then_ ?_
    cases b2
    · refine Sy.cond_f (by kernel_rfl) (by kernel_rfl) ?_
      refine Sy.skip ?_
      refine Sy.in_ ?_
      refine Sy.then_ ?_
      refine Sy.region ?_
      refine Sy.step (by kernel_rfl) (.int .i64 ((k1 : Nat) : Int)) (Quiet.pure (fun _ => by kernel_rfl)) ?_
      refine Sy.step (by kernel_rfl) (.int .i64 ((k1 + 1 : Nat) : Int)) (Quiet.pure (exec_int .add _ _ _ .i64 _ _ _ rfl rfl rfl (int_add _ _ _ _ _ ((wrap_i64 (by omega) (by omega)).trans (by omega))))) ?_
      refine Sy.step (by kernel_rfl) (.int .i64 ((k1 + 1 : Nat) : Int)) (Quiet.pure (fun _ => by kernel_rfl)) ?_
      refine Sy.nil ?_
      exact Sy.againH [true, true, false, false, false, false, false] (M := [(g0, 23, (nm.map bv).toArray), (g1, 28, (pcs 0 0 false))]) (by omega) ((all_lt hh hb2)) (all_cons (by kernel_rfl) (all_cons (by kernel_rfl) (all_cons (by kernel_rfl) all_nil))) (by kernel_rfl) (bcons rfl (bcons rfl rfl))
    · refine Sy.cond_t (by kernel_rfl) (by kernel_rfl) ?_
      refine Sy.seq ?_
      refine Sy.region ?_
      refine Sy.step (by kernel_rfl) (pv (qX (liftP (genX nm k1))) (qY (liftP (genX nm k1))) (qI (liftP (genX nm k1)))) (Quiet.load 6 g5 0 9 28 28 (pcs (qX (liftP (genX nm k1))) (qY (liftP (genX nm k1))) (qI (liftP (genX nm k1)))) _ _ rfl (by kernel_rfl) (by kernel_rfl) Tryd.underlying28 rfl (by kernel_rfl) _ (by kernel_rfl) (Nat.le_of_ble_eq_true (by kernel_rfl))) ?_
      refine Sy.write (by kernel_rfl) 1 g1 28 (pcs 0 0 false) (pcs (qX (liftP (genX nm k1))) (qY (liftP (genX nm k1))) (qI (liftP (genX nm k1)))) (by kernel_rfl) (Writes.store 0 28 (pcs (qX (liftP (genX nm k1))) (qY (liftP (genX nm k1))) (qI (liftP (genX nm k1)))) _ _ rfl (by kernel_rfl) (by kernel_rfl) (by kernel_rfl) (Nat.le_of_ble_eq_true (by kernel_rfl)) (by kernel_rfl) (by kernel_rfl)) ?_
      refine Sy.nil ?_
      refine Sy.then_ ?_
      refine Sy.ret ?_
      refine Sy.in_ret ?_
      refine Sy.then_ret ?_
      refine Sy.then_ret ?_
      refine Sy.in_ret ?_
      refine Sy.then_ret ?_
      rw [show (ptv (genP nm) : Value) = pv (qX (liftP (genX nm k1))) (qY (liftP (genX nm k1))) (qI (liftP (genX nm k1))) from by rw [← ptv_q, gen_first (by omega) hh hb2.symm]]
      exact Sy.ret1 (v := pv (qX (liftP (genX nm k1))) (qY (liftP (genX nm k1))) (qI (liftP (genX nm k1)))) rfl (.inl (Res.cell (ty' := 28) g1 1 (pcs (qX (liftP (genX nm k1))) (qY (liftP (genX nm k1))) (qI (liftP (genX nm k1)))) _ (by kernel_rfl) (by kernel_rfl) Tryd.underlying28 rfl (by kernel_rfl) (by kernel_rfl)))
end Go.Proofs.YtneeefinaejgcaaDoor.Cu

end
section
namespace Go.Proofs.YtneeefinaejgcaaDoor.Cu
open Go.RowKit Go.Proofs.YtneeefinaejgcaaDoor Go.Proofs.YtneeefinaejgcaaDoor.Sy

theorem ptv_inf {x y : Fp} {a b : Nat} {i : Bool} (h : ptv (some (x, y)) = pv a b i) : i = false := by
  have h2 : (pcs x.val y.val false)[8]? = (pcs a b i)[8]? := by
    have h3 : Value.agg (pcs x.val y.val false) = Value.agg (pcs a b i) := h
    injection h3 with h4
    rw [h4]
  have e1 : (pcs x.val y.val false)[8]? = some (Value.bool false) := rfl
  have e2 : (pcs a b i)[8]? = some (Value.bool i) := rfl
  rw [e1, e2] at h2
  injection h2 with h5
  injection h5 with h6
  exact h6.symm
set_option maxHeartbeats 4000000 in
set_option maxRecDepth 100000 in
theorem law_generators (w : World) (nm : List UInt8) (hnm : nm.length = 32) (ht : Sh.TabAt w 1) (htr : Sh.TabAt w 0) : Calls Tryd.prog 3 #[.agg (nm.map bv).toArray] w (Gets w (.bool true)) := by
  obtain ⟨px, py, pi, lpx, lpy, ep, dp, rp⟩ := ptv_raw (genP nm) (genP_on nm)
  have hpi : pi = false := by
    obtain ⟨⟨x, y⟩, hp⟩ := genP_ne nm
    rw [hp] at ep
    have := ptv_inf ep
    exact this
  subst hpi
  refine Sy.enter (args := [.agg (nm.map bv).toArray]) Tryd.func3 rfl (Nat.le_of_ble_eq_true (by kernel_rfl)) ?_
  refine Sy.seq ?_
  refine Sy.region ?_
  refine Sy.make (by kernel_rfl) 23 (nm.map bv).toArray ptr (fun _ => by kernel_rfl) (fun g0 => ?_)
  refine Sy.step (by kernel_rfl) (.bool false) (Quiet.pure (fun _ => by kernel_rfl)) ?_
  refine Sy.nil ?_
  refine Sy.then_ ?_
  refine Sy.seq ?_
  refine Sy.region ?_
  refine Sy.step (by kernel_rfl) (.agg (nm.map bv).toArray) (Quiet.load 0 g0 0 32 23 23 (nm.map bv).toArray _ _ rfl (by kernel_rfl) (by kernel_rfl) Tryd.underlying23 rfl (by kernel_rfl) _ (key_whole nm hnm) (key_size nm hnm)) ?_
  refine Sy.step (by kernel_rfl) (pv px py false) (Quiet.callS 5 #[.agg (nm.map bv).toArray] (fun _ => by kernel_rfl) (fun w hw => by have q := gen_any w nm hnm (ht.below hw.below ht.lt); rw [ep] at q; exact q)) ?_
  refine Sy.make (by kernel_rfl) 28 (pcs 0 0 false) ptr (fun _ => by kernel_rfl) (fun g1 => ?_)
  refine Sy.write (by kernel_rfl) 1 g1 28 (pcs 0 0 false) (pcs px py false) (by kernel_rfl) (Writes.store 0 28 (pcs px py false) _ _ rfl (by kernel_rfl) (by kernel_rfl) (by kernel_rfl) (Nat.le_of_ble_eq_true (by kernel_rfl)) (by kernel_rfl) (by kernel_rfl)) ?_
  refine Sy.nil ?_
  refine Sy.then_ ?_
  refine Sy.seq ?_
  refine Sy.regionD (fun j => false) (by kernel_rfl) ?_
  refine Sy.stepD 0 rfl (by kernel_rfl) (fun _ _ _ _ h => h) (by kernel_rfl) (.bool true) (Quiet.call 6 #[] (fun _ => by kernel_rfl) (alive5)) ?_
  refine Sy.stepD 1 rfl (by kernel_rfl) (fun _ _ _ _ h => h) (by kernel_rfl) (.bool true) (Quiet.pure (fun _ => by kernel_rfl)) ?_
  refine Sy.stepD 2 rfl (by kernel_rfl) (fun _ _ _ _ h => h) (by kernel_rfl) (pv px py false) (Quiet.load 1 g1 0 9 28 28 (pcs px py false) _ _ rfl (by kernel_rfl) (by kernel_rfl) Tryd.underlying28 rfl (by kernel_rfl) _ (by kernel_rfl) (Nat.le_of_ble_eq_true (by kernel_rfl))) ?_
  refine Sy.stepD 3 rfl (by kernel_rfl) (fun _ _ _ _ h => h) (by kernel_rfl) (.agg (nm.map bv).toArray) (Quiet.load 0 g0 0 32 23 23 (nm.map bv).toArray _ _ rfl (by kernel_rfl) (by kernel_rfl) Tryd.underlying23 rfl (by kernel_rfl) _ (key_whole nm hnm) (key_size nm hnm)) ?_
  refine Sy.stepD 4 rfl (by kernel_rfl) (fun _ _ _ _ h => h) (by kernel_rfl) (pv px py false) (Quiet.callS 7 #[.agg (nm.map bv).toArray] (fun _ => by kernel_rfl) (fun w hw => by have q := genR_any w nm hnm (htr.below hw.below htr.lt); rw [ep] at q; exact q)) ?_
  refine Sy.stepD 5 rfl (by kernel_rfl) (fun _ _ _ _ h => h) (by kernel_rfl) (.bool true) (Quiet.pure (fun w => eql_pt_same w _ _ _ _ _ _ _ rfl rfl rfl (by first | assumption | exact lt4 _ | decide +kernel) (by first | assumption | exact lt4 _ | decide +kernel))) ?_
  refine Sy.stepD 6 rfl (by kernel_rfl) (fun _ _ _ _ h => h) (by kernel_rfl) (.bool true) (Quiet.pure (fun _ => by kernel_rfl)) ?_
  refine Sy.stepD 7 rfl (by kernel_rfl) (fun _ _ _ _ h => h) (by kernel_rfl) (.bool true) (Quiet.pure (fun _ => by kernel_rfl)) ?_
  refine Sy.stepD 8 rfl (by kernel_rfl) (fun _ _ _ _ h => h) (by kernel_rfl) (pv px py false) (Quiet.load 1 g1 0 9 28 28 (pcs px py false) _ _ rfl (by kernel_rfl) (by kernel_rfl) Tryd.underlying28 rfl (by kernel_rfl) _ (by kernel_rfl) (Nat.le_of_ble_eq_true (by kernel_rfl))) ?_
  refine Sy.stepD 9 rfl (by kernel_rfl) (fun _ _ _ _ h => h) (by kernel_rfl) (.bool true) (Quiet.call 8 #[pv px py false] (fun _ => by kernel_rfl) (right_of lpx lpy rp)) ?_
  refine Sy.stepD 10 rfl (by kernel_rfl) (fun _ _ _ _ h => h) (by kernel_rfl) (.bool true) (Quiet.pure (fun _ => by kernel_rfl)) ?_
  refine Sy.stepD 11 rfl (by kernel_rfl) (fun _ _ _ _ h => h) (by kernel_rfl) (.bool true) (Quiet.pure (fun _ => by kernel_rfl)) ?_
  refine Sy.stepD 12 rfl (by kernel_rfl) (fun _ _ _ _ h => h) (by kernel_rfl) (.pointer (some ⟨g1, 8, none⟩)) (Quiet.pure (fun _ => by kernel_rfl)) ?_
  refine Sy.stepD 13 rfl (by kernel_rfl) (fun _ _ _ _ h => h) (by kernel_rfl) (.bool false) (Quiet.cell 1 g1 8 28 4 (pcs px py false) _ _ rfl (by kernel_rfl) (by kernel_rfl) Tryd.underlying4 rfl _ (by kernel_rfl)) ?_
  refine Sy.stepD 14 rfl (by kernel_rfl) (fun _ _ _ _ h => h) (by kernel_rfl) (.bool true) (Quiet.pure (fun _ => by kernel_rfl)) ?_
  refine Sy.stepD 15 rfl (by kernel_rfl) (fun _ _ _ _ h => h) (by kernel_rfl) (.bool true) (Quiet.pure (fun _ => by kernel_rfl)) ?_
  refine Sy.stepD 16 rfl (by kernel_rfl) (fun _ _ _ _ h => h) (by kernel_rfl) (.bool true) (Quiet.pure (fun _ => by kernel_rfl)) ?_
  refine Sy.doneD (by kernel_rfl) ?_
  refine Sy.then_ ?_
  refine Sy.ret ?_
  exact Sy.ret1 (v := .bool true) rfl (.inl (show _ = _ by kernel_rfl))
end Go.Proofs.YtneeefinaejgcaaDoor.Cu

end
