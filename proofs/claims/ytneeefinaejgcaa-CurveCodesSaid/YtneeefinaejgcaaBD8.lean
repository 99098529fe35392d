/-
  Texts of ours, put together: CrvE.
-/
import Derived.Test.YtneeefinaejgcaaBD7
set_option linter.unusedVariables false
set_option linter.unusedSimpArgs false
section
namespace Go.Proofs.Ytneeefinaejgcaa.Cu
open Go.RowKit Go.Proofs.Ytneeefinaejgcaa Go.Proofs.Ytneeefinaejgcaa.Sy

set_option maxHeartbeats 4000000 in
set_option maxRecDepth 100000 in
theorem liftR_any (w : World) (l : List UInt8) (hl : l.length = 32) : Calls Try.prog 53 #[.agg (l.map bv).toArray] w (Gets w (.tuple #[ptv (liftP l), .bool (liftB l)])) := by
  have hv := valB_lt32 l hl
  refine Sy.enter (args := [.agg (l.map bv).toArray]) Try.func53 rfl (Nat.le_of_ble_eq_true (by kernel_rfl)) ?_
  refine Sy.seq ?_
  refine Sy.region ?_
  refine Sy.make (by kernel_rfl) 85 (l.map bv).toArray ptr (fun _ => by kernel_rfl) (fun g0 => ?_)
  refine Sy.make (by kernel_rfl) 27 (pcs 0 0 false) ptr (fun _ => by kernel_rfl) (fun g1 => ?_)
  refine Sy.step (by kernel_rfl) (.bool false) (Quiet.pure (fun _ => by kernel_rfl)) ?_
  refine Sy.nil ?_
  refine Sy.then_ ?_
  refine Sy.seq ?_
  refine Sy.region ?_
  refine Sy.step (by kernel_rfl) (.slice none 0 0) (Quiet.pure (fun _ => by kernel_rfl)) ?_
  refine Sy.nil ?_
  refine Sy.then_ ?_
  refine Sy.seq ?_
  refine Sy.seq ?_
  refine Sy.region ?_
  refine Sy.step (by kernel_rfl) (.int .i64 0) (Quiet.pure (fun _ => by kernel_rfl)) ?_
  refine Sy.nil ?_
  refine Sy.then_ ?_
  refine Sy.block ?_
  refine Sy.loopN 33 ?_
  refine Sy.tidyR (G := [(1, .pointer (some ⟨g0, 0, none⟩)), (2, .pointer (some ⟨g1, 0, none⟩)), (4, .slice none 0 0), (5, .int .i64 0)]) (M := [(g0, 85, (l.map bv).toArray), (g1, 27, (pcs 0 0 false))]) [true, true] (by kernel_rfl) (all_cons (by kernel_rfl) (all_cons (by kernel_rfl) (all_cons (by kernel_rfl) (all_cons (by kernel_rfl) all_nil)))) ?_
  refine Sy.round ?_
  refine Sy.seq ?_
  refine Sy.seq ?_
  refine Sy.region ?_
  refine Sy.step (by kernel_rfl) (.int .i64 0) (Quiet.pure (fun _ => by kernel_rfl)) ?_
  refine Sy.step (by kernel_rfl) (.bool true) (Quiet.pure (fun _ => by kernel_rfl)) ?_
  refine Sy.nil ?_
  refine Sy.then_ ?_
  refine Sy.cond_t (by kernel_rfl) (by kernel_rfl) ?_
  refine Sy.skip ?_
  refine Sy.then_ ?_
  refine Sy.seq ?_
  refine Sy.block ?_
  refine Sy.region ?_
  refine Sy.step (by kernel_rfl) (.slice none 0 0) (Quiet.pure (fun _ => by kernel_rfl)) ?_
  refine Sy.step (by kernel_rfl) (.int .i64 0) (Quiet.pure (fun _ => by kernel_rfl)) ?_
  refine Sy.step (by kernel_rfl) (.pointer (some ⟨g0, 0, none⟩)) (Quiet.pure (fun _ => by kernel_rfl)) ?_
  refine Sy.step (by kernel_rfl) (bv (l.getD 0 0)) (Quiet.cell 0 g0 0 85 5 (l.map bv).toArray _ _ rfl (by kernel_rfl) (by kernel_rfl) Try.underlying5 rfl _ (key_at l hl 0 (by decide))) ?_
  refine Sy.make (by kernel_rfl) 5 #[bv (l.getD 0 0)] (fun g => .slice (some ⟨g, 0, none⟩) 1 1) (fun _ => by kernel_rfl) (fun g2 => ?_)
  refine Sy.appendNil (by kernel_rfl) 41 5 _ _ Try.underlying41 info_u8 rfl rfl rfl rfl _ _ rfl (by kernel_rfl) 2 g2 0 1 1 5 #[bv (l.getD 0 0)] [bv (l.getD 0 0)] (by kernel_rfl) (by kernel_rfl) (by kernel_rfl) rfl (by decide) (by intro u hu; simp only [List.mem_cons, List.not_mem_nil, or_false] at hu; subst hu; rfl) (by decide) (fun q1 c1 s1 e1 m1 => ?_)
  refine Sy.step (by kernel_rfl) (.slice (some ⟨q1, 0, none⟩) 1 c1) (Quiet.pure (fun _ => by kernel_rfl)) ?_
  refine Sy.nil ?_
  refine Sy.in_ ?_
  refine Sy.then_ ?_
  refine Sy.region ?_
  refine Sy.step (by kernel_rfl) (.int .i64 0) (Quiet.pure (fun _ => by kernel_rfl)) ?_
  refine Sy.step (by kernel_rfl) (.int .i64 1) (Quiet.pure (fun _ => by kernel_rfl)) ?_
  refine Sy.step (by kernel_rfl) (.int .i64 1) (Quiet.pure (fun _ => by kernel_rfl)) ?_
  refine Sy.nil ?_
  refine Sy.again ?_
  refine Sy.tidyR (G := [(1, .pointer (some ⟨g0, 0, none⟩)), (2, .pointer (some ⟨g1, 0, none⟩)), (4, .slice (some ⟨q1, 0, none⟩) 1 c1), (5, .int .i64 1)]) (M := [(g0, 85, (l.map bv).toArray), (g1, 27, (pcs 0 0 false)), (q1, 5, ([bv (l.getD 0 0)] ++ s1).toArray)]) [true, true, false, true] (by kernel_rfl) (all_cons (by kernel_rfl) (all_cons (by kernel_rfl) (all_cons (by kernel_rfl) (all_cons (by kernel_rfl) all_nil)))) ?_
  refine Sy.round ?_
  refine Sy.seq ?_
  refine Sy.seq ?_
  refine Sy.region ?_
  refine Sy.step (by kernel_rfl) (.int .i64 1) (Quiet.pure (fun _ => by kernel_rfl)) ?_
  refine Sy.step (by kernel_rfl) (.bool true) (Quiet.pure (fun _ => by kernel_rfl)) ?_
  refine Sy.nil ?_
  refine Sy.then_ ?_
  refine Sy.cond_t (by kernel_rfl) (by kernel_rfl) ?_
  refine Sy.skip ?_
  refine Sy.then_ ?_
  refine Sy.seq ?_
  refine Sy.block ?_
  refine Sy.region ?_
  refine Sy.step (by kernel_rfl) (.slice (some ⟨q1, 0, none⟩) 1 c1) (Quiet.pure (fun _ => by kernel_rfl)) ?_
  refine Sy.step (by kernel_rfl) (.int .i64 1) (Quiet.pure (fun _ => by kernel_rfl)) ?_
  refine Sy.step (by kernel_rfl) (.pointer (some ⟨g0, 1, none⟩)) (Quiet.pure (fun _ => by kernel_rfl)) ?_
  refine Sy.step (by kernel_rfl) (bv (l.getD 1 0)) (Quiet.cell 0 g0 1 85 5 (l.map bv).toArray _ _ rfl (by kernel_rfl) (by kernel_rfl) Try.underlying5 rfl _ (key_at l hl 1 (by decide))) ?_
  refine Sy.make (by kernel_rfl) 5 #[bv (l.getD 1 0)] (fun g => .slice (some ⟨g, 0, none⟩) 1 1) (fun _ => by kernel_rfl) (fun g3 => ?_)
  refine Sy.append (by kernel_rfl) 41 5 _ _ Try.underlying41 info_u8 rfl rfl rfl rfl _ _ rfl 2 q1 1 c1 ([bv (l.getD 0 0)] ++ s1).toArray [bv (l.getD 0 0)] (by kernel_rfl) (by kernel_rfl) (by kernel_rfl) rfl (by rw [← e1]; simp only [List.size_toArray, List.length_append, List.length_cons, List.length_nil]; omega) m1 3 g3 0 1 1 5 #[bv (l.getD 1 0)] [bv (l.getD 1 0)] (by kernel_rfl) (by kernel_rfl) (by kernel_rfl) rfl (by intro u hu; simp only [List.mem_cons, List.not_mem_nil, or_false] at hu; subst hu; rfl) (by decide) (fun q2 c2 s2 e2 m2 => ?_)
  refine Sy.step (by kernel_rfl) (.slice (some ⟨q2, 0, none⟩) 2 c2) (Quiet.pure (fun _ => by kernel_rfl)) ?_
  refine Sy.nil ?_
  refine Sy.in_ ?_
  refine Sy.then_ ?_
  refine Sy.region ?_
  refine Sy.step (by kernel_rfl) (.int .i64 1) (Quiet.pure (fun _ => by kernel_rfl)) ?_
  refine Sy.step (by kernel_rfl) (.int .i64 2) (Quiet.pure (fun _ => by kernel_rfl)) ?_
  refine Sy.step (by kernel_rfl) (.int .i64 2) (Quiet.pure (fun _ => by kernel_rfl)) ?_
  refine Sy.nil ?_
  refine Sy.again ?_
  refine Sy.tidyR (G := [(1, .pointer (some ⟨g0, 0, none⟩)), (2, .pointer (some ⟨g1, 0, none⟩)), (4, .slice (some ⟨q2, 0, none⟩) 2 c2), (5, .int .i64 2)]) (M := [(g0, 85, (l.map bv).toArray), (g1, 27, (pcs 0 0 false)), (q2, 5, ([bv (l.getD 0 0), bv (l.getD 1 0)] ++ s2).toArray)]) [true, true, true, false] (by kernel_rfl) (all_cons (by kernel_rfl) (all_cons (by kernel_rfl) (all_cons (by kernel_rfl) (all_cons (by kernel_rfl) all_nil)))) ?_
  refine Sy.round ?_
  refine Sy.seq ?_
  refine Sy.seq ?_
  refine Sy.region ?_
  refine Sy.step (by kernel_rfl) (.int .i64 2) (Quiet.pure (fun _ => by kernel_rfl)) ?_
  refine Sy.step (by kernel_rfl) (.bool true) (Quiet.pure (fun _ => by kernel_rfl)) ?_
  refine Sy.nil ?_
  refine Sy.then_ ?_
  refine Sy.cond_t (by kernel_rfl) (by kernel_rfl) ?_
  refine Sy.skip ?_
  refine Sy.then_ ?_
  refine Sy.seq ?_
  refine Sy.block ?_
  refine Sy.region ?_
  refine Sy.step (by kernel_rfl) (.slice (some ⟨q2, 0, none⟩) 2 c2) (Quiet.pure (fun _ => by kernel_rfl)) ?_
  refine Sy.step (by kernel_rfl) (.int .i64 2) (Quiet.pure (fun _ => by kernel_rfl)) ?_
  refine Sy.step (by kernel_rfl) (.pointer (some ⟨g0, 2, none⟩)) (Quiet.pure (fun _ => by kernel_rfl)) ?_
  refine Sy.step (by kernel_rfl) (bv (l.getD 2 0)) (Quiet.cell 0 g0 2 85 5 (l.map bv).toArray _ _ rfl (by kernel_rfl) (by kernel_rfl) Try.underlying5 rfl _ (key_at l hl 2 (by decide))) ?_
  refine Sy.make (by kernel_rfl) 5 #[bv (l.getD 2 0)] (fun g => .slice (some ⟨g, 0, none⟩) 1 1) (fun _ => by kernel_rfl) (fun g4 => ?_)
  refine Sy.append (by kernel_rfl) 41 5 _ _ Try.underlying41 info_u8 rfl rfl rfl rfl _ _ rfl 2 q2 2 c2 ([bv (l.getD 0 0), bv (l.getD 1 0)] ++ s2).toArray [bv (l.getD 0 0), bv (l.getD 1 0)] (by kernel_rfl) (by kernel_rfl) (by kernel_rfl) rfl (by rw [← e2]; simp only [List.size_toArray, List.length_append, List.length_cons, List.length_nil]; omega) m2 3 g4 0 1 1 5 #[bv (l.getD 2 0)] [bv (l.getD 2 0)] (by kernel_rfl) (by kernel_rfl) (by kernel_rfl) rfl (by intro u hu; simp only [List.mem_cons, List.not_mem_nil, or_false] at hu; subst hu; rfl) (by decide) (fun q3 c3 s3 e3 m3 => ?_)
  refine Sy.step (by kernel_rfl) (.slice (some ⟨q3, 0, none⟩) 3 c3) (Quiet.pure (fun _ => by kernel_rfl)) ?_
  refine Sy.nil ?_
  refine Sy.in_ ?_
  refine Sy.then_ ?_
  refine Sy.region ?_
  refine Sy.step (by kernel_rfl) (.int .i64 2) (Quiet.pure (fun _ => by kernel_rfl)) ?_
  refine Sy.step (by kernel_rfl) (.int .i64 3) (Quiet.pure (fun _ => by kernel_rfl)) ?_
  refine Sy.step (by kernel_rfl) (.int .i64 3) (Quiet.pure (fun _ => by kernel_rfl)) ?_
  refine Sy.nil ?_
  refine Sy.again ?_
  refine Sy.tidyR (G := [(1, .pointer (some ⟨g0, 0, none⟩)), (2, .pointer (some ⟨g1, 0, none⟩)), (4, .slice (some ⟨q3, 0, none⟩) 3 c3), (5, .int .i64 3)]) (M := [(g0, 85, (l.map bv).toArray), (g1, 27, (pcs 0 0 false)), (q3, 5, ([bv (l.getD 0 0), bv (l.getD 1 0), bv (l.getD 2 0)] ++ s3).toArray)]) [true, true, true, false] (by kernel_rfl) (all_cons (by kernel_rfl) (all_cons (by kernel_rfl) (all_cons (by kernel_rfl) (all_cons (by kernel_rfl) all_nil)))) ?_
  refine Sy.round ?_
  refine Sy.seq ?_
  refine Sy.seq ?_
  refine Sy.region ?_
  refine Sy.step (by kernel_rfl) (.int .i64 3) (Quiet.pure (fun _ => by kernel_rfl)) ?_
  refine Sy.step (by kernel_rfl) (.bool true) (Quiet.pure (fun _ => by kernel_rfl)) ?_
  refine Sy.nil ?_
  refine Sy.then_ ?_
  refine Sy.cond_t (by kernel_rfl) (by kernel_rfl) ?_
  refine Sy.skip ?_
  refine Sy.then_ ?_
  refine Sy.seq ?_
  refine Sy.block ?_
  refine Sy.region ?_
  refine Sy.step (by kernel_rfl) (.slice (some ⟨q3, 0, none⟩) 3 c3) (Quiet.pure (fun _ => by kernel_rfl)) ?_
  refine Sy.step (by kernel_rfl) (.int .i64 3) (Quiet.pure (fun _ => by kernel_rfl)) ?_
  refine Sy.step (by kernel_rfl) (.pointer (some ⟨g0, 3, none⟩)) (Quiet.pure (fun _ => by kernel_rfl)) ?_
  refine Sy.step (by kernel_rfl) (bv (l.getD 3 0)) (Quiet.cell 0 g0 3 85 5 (l.map bv).toArray _ _ rfl (by kernel_rfl) (by kernel_rfl) Try.underlying5 rfl _ (key_at l hl 3 (by decide))) ?_
  refine Sy.make (by kernel_rfl) 5 #[bv (l.getD 3 0)] (fun g => .slice (some ⟨g, 0, none⟩) 1 1) (fun _ => by kernel_rfl) (fun g5 => ?_)
  refine Sy.append (by kernel_rfl) 41 5 _ _ Try.underlying41 info_u8 rfl rfl rfl rfl _ _ rfl 2 q3 3 c3 ([bv (l.getD 0 0), bv (l.getD 1 0), bv (l.getD 2 0)] ++ s3).toArray [bv (l.getD 0 0), bv (l.getD 1 0), bv (l.getD 2 0)] (by kernel_rfl) (by kernel_rfl) (by kernel_rfl) rfl (by rw [← e3]; simp only [List.size_toArray, List.length_append, List.length_cons, List.length_nil]; omega) m3 3 g5 0 1 1 5 #[bv (l.getD 3 0)] [bv (l.getD 3 0)] (by kernel_rfl) (by kernel_rfl) (by kernel_rfl) rfl (by intro u hu; simp only [List.mem_cons, List.not_mem_nil, or_false] at hu; subst hu; rfl) (by decide) (fun q4 c4 s4 e4 m4 => ?_)
  refine Sy.step (by kernel_rfl) (.slice (some ⟨q4, 0, none⟩) 4 c4) (Quiet.pure (fun _ => by kernel_rfl)) ?_
  refine Sy.nil ?_
  refine Sy.in_ ?_
  refine Sy.then_ ?_
  refine Sy.region ?_
  refine Sy.step (by kernel_rfl) (.int .i64 3) (Quiet.pure (fun _ => by kernel_rfl)) ?_
  refine Sy.step (by kernel_rfl) (.int .i64 4) (Quiet.pure (fun _ => by kernel_rfl)) ?_
  refine Sy.step (by kernel_rfl) (.int .i64 4) (Quiet.pure (fun _ => by kernel_rfl)) ?_
  refine Sy.nil ?_
  refine Sy.again ?_
  refine Sy.tidyR (G := [(1, .pointer (some ⟨g0, 0, none⟩)), (2, .pointer (some ⟨g1, 0, none⟩)), (4, .slice (some ⟨q4, 0, none⟩) 4 c4), (5, .int .i64 4)]) (M := [(g0, 85, (l.map bv).toArray), (g1, 27, (pcs 0 0 false)), (q4, 5, ([bv (l.getD 0 0), bv (l.getD 1 0), bv (l.getD 2 0), bv (l.getD 3 0)] ++ s4).toArray)]) [true, true, true, false] (by kernel_rfl) (all_cons (by kernel_rfl) (all_cons (by kernel_rfl) (all_cons (by kernel_rfl) (all_cons (by kernel_rfl) all_nil)))) ?_
  refine Sy.round ?_
  refine Sy.seq ?_
  refine Sy.seq ?_
  refine Sy.region ?_
  refine Sy.step (by kernel_rfl) (.int .i64 4) (Quiet.pure (fun _ => by kernel_rfl)) ?_
  refine Sy.step (by kernel_rfl) (.bool true) (Quiet.pure (fun _ => by kernel_rfl)) ?_
  refine Sy.nil ?_
  refine Sy.then_ ?_
  refine Sy.cond_t (by kernel_rfl) (by kernel_rfl) ?_
  refine Sy.skip ?_
  refine Sy.then_ ?_
  refine Sy.seq ?_
  refine Sy.block ?_
  refine Sy.region ?_
  refine Sy.step (by kernel_rfl) (.slice (some ⟨q4, 0, none⟩) 4 c4) (Quiet.pure (fun _ => by kernel_rfl)) ?_
  refine Sy.step (by kernel_rfl) (.int .i64 4) (Quiet.pure (fun _ => by kernel_rfl)) ?_
  refine Sy.step (by kernel_rfl) (.pointer (some ⟨g0, 4, none⟩)) (Quiet.pure (fun _ => by kernel_rfl)) ?_
  refine Sy.step (by kernel_rfl) (bv (l.getD 4 0)) (Quiet.cell 0 g0 4 85 5 (l.map bv).toArray _ _ rfl (by kernel_rfl) (by kernel_rfl) Try.underlying5 rfl _ (key_at l hl 4 (by decide))) ?_
  refine Sy.make (by kernel_rfl) 5 #[bv (l.getD 4 0)] (fun g => .slice (some ⟨g, 0, none⟩) 1 1) (fun _ => by kernel_rfl) (fun g6 => ?_)
  refine Sy.append (by kernel_rfl) 41 5 _ _ Try.underlying41 info_u8 rfl rfl rfl rfl _ _ rfl 2 q4 4 c4 ([bv (l.getD 0 0), bv (l.getD 1 0), bv (l.getD 2 0), bv (l.getD 3 0)] ++ s4).toArray [bv (l.getD 0 0), bv (l.getD 1 0), bv (l.getD 2 0), bv (l.getD 3 0)] (by kernel_rfl) (by kernel_rfl) (by kernel_rfl) rfl (by rw [← e4]; simp only [List.size_toArray, List.length_append, List.length_cons, List.length_nil]; omega) m4 3 g6 0 1 1 5 #[bv (l.getD 4 0)] [bv (l.getD 4 0)] (by kernel_rfl) (by kernel_rfl) (by kernel_rfl) rfl (by intro u hu; simp only [List.mem_cons, List.not_mem_nil, or_false] at hu; subst hu; rfl) (by decide) (fun q5 c5 s5 e5 m5 => ?_)
  refine Sy.step (by kernel_rfl) (.slice (some ⟨q5, 0, none⟩) 5 c5) (Quiet.pure (fun _ => by kernel_rfl)) ?_
  refine Sy.nil ?_
  refine Sy.in_ ?_
  refine Sy.then_ ?_
  refine Sy.region ?_
  refine Sy.step (by kernel_rfl) (.int .i64 4) (Quiet.pure (fun _ => by kernel_rfl)) ?_
  refine Sy.step (by kernel_rfl) (.int .i64 5) (Quiet.pure (fun _ => by kernel_rfl)) ?_
  refine Sy.step (by kernel_rfl) (.int .i64 5) (Quiet.pure (fun _ => by kernel_rfl)) ?_
  refine Sy.nil ?_
  refine Sy.again ?_
  refine Sy.tidyR (G := [(1, .pointer (some ⟨g0, 0, none⟩)), (2, .pointer (some ⟨g1, 0, none⟩)), (4, .slice (some ⟨q5, 0, none⟩) 5 c5), (5, .int .i64 5)]) (M := [(g0, 85, (l.map bv).toArray), (g1, 27, (pcs 0 0 false)), (q5, 5, ([bv (l.getD 0 0), bv (l.getD 1 0), bv (l.getD 2 0), bv (l.getD 3 0), bv (l.getD 4 0)] ++ s5).toArray)]) [true, true, true, false] (by kernel_rfl) (all_cons (by kernel_rfl) (all_cons (by kernel_rfl) (all_cons (by kernel_rfl) (all_cons (by kernel_rfl) all_nil)))) ?_
  refine Sy.round ?_
  refine Sy.seq ?_
  refine Sy.seq ?_
  refine Sy.region ?_
  refine Sy.step (by kernel_rfl) (.int .i64 5) (Quiet.pure (fun _ => by kernel_rfl)) ?_
  refine Sy.step (by kernel_rfl) (.bool true) (Quiet.pure (fun _ => by kernel_rfl)) ?_
  refine Sy.nil ?_
  refine Sy.then_ ?_
  refine Sy.cond_t (by kernel_rfl) (by kernel_rfl) ?_
  refine Sy.skip ?_
  refine Sy.then_ ?_
  refine Sy.seq ?_
  refine Sy.block ?_
  refine Sy.region ?_
  refine Sy.step (by kernel_rfl) (.slice (some ⟨q5, 0, none⟩) 5 c5) (Quiet.pure (fun _ => by kernel_rfl)) ?_
  refine Sy.step (by kernel_rfl) (.int .i64 5) (Quiet.pure (fun _ => by kernel_rfl)) ?_
  refine Sy.step (by kernel_rfl) (.pointer (some ⟨g0, 5, none⟩)) (Quiet.pure (fun _ => by kernel_rfl)) ?_
  refine Sy.step (by kernel_rfl) (bv (l.getD 5 0)) (Quiet.cell 0 g0 5 85 5 (l.map bv).toArray _ _ rfl (by kernel_rfl) (by kernel_rfl) Try.underlying5 rfl _ (key_at l hl 5 (by decide))) ?_
  refine Sy.make (by kernel_rfl) 5 #[bv (l.getD 5 0)] (fun g => .slice (some ⟨g, 0, none⟩) 1 1) (fun _ => by kernel_rfl) (fun g7 => ?_)
  refine Sy.append (by kernel_rfl) 41 5 _ _ Try.underlying41 info_u8 rfl rfl rfl rfl _ _ rfl 2 q5 5 c5 ([bv (l.getD 0 0), bv (l.getD 1 0), bv (l.getD 2 0), bv (l.getD 3 0), bv (l.getD 4 0)] ++ s5).toArray [bv (l.getD 0 0), bv (l.getD 1 0), bv (l.getD 2 0), bv (l.getD 3 0), bv (l.getD 4 0)] (by kernel_rfl) (by kernel_rfl) (by kernel_rfl) rfl (by rw [← e5]; simp only [List.size_toArray, List.length_append, List.length_cons, List.length_nil]; omega) m5 3 g7 0 1 1 5 #[bv (l.getD 5 0)] [bv (l.getD 5 0)] (by kernel_rfl) (by kernel_rfl) (by kernel_rfl) rfl (by intro u hu; simp only [List.mem_cons, List.not_mem_nil, or_false] at hu; subst hu; rfl) (by decide) (fun q6 c6 s6 e6 m6 => ?_)
  refine Sy.step (by kernel_rfl) (.slice (some ⟨q6, 0, none⟩) 6 c6) (Quiet.pure (fun _ => by kernel_rfl)) ?_
  refine Sy.nil ?_
  refine Sy.in_ ?_
  refine Sy.then_ ?_
  refine Sy.region ?_
  refine Sy.step (by kernel_rfl) (.int .i64 5) (Quiet.pure (fun _ => by kernel_rfl)) ?_
  refine Sy.step (by kernel_rfl) (.int .i64 6) (Quiet.pure (fun _ => by kernel_rfl)) ?_
  refine Sy.step (by kernel_rfl) (.int .i64 6) (Quiet.pure (fun _ => by kernel_rfl)) ?_
  refine Sy.nil ?_
  refine Sy.again ?_
  refine Sy.tidyR (G := [(1, .pointer (some ⟨g0, 0, none⟩)), (2, .pointer (some ⟨g1, 0, none⟩)), (4, .slice (some ⟨q6, 0, none⟩) 6 c6), (5, .int .i64 6)]) (M := [(g0, 85, (l.map bv).toArray), (g1, 27, (pcs 0 0 false)), (q6, 5, ([bv (l.getD 0 0), bv (l.getD 1 0), bv (l.getD 2 0), bv (l.getD 3 0), bv (l.getD 4 0), bv (l.getD 5 0)] ++ s6).toArray)]) [true, true, true, false] (by kernel_rfl) (all_cons (by kernel_rfl) (all_cons (by kernel_rfl) (all_cons (by kernel_rfl) (all_cons (by kernel_rfl) all_nil)))) ?_
  refine Sy.round ?_
  refine Sy.seq ?_
  refine Sy.seq ?_
  refine Sy.region ?_
  refine Sy.step (by kernel_rfl) (.int .i64 6) (Quiet.pure (fun _ => by kernel_rfl)) ?_
  refine Sy.step (by kernel_rfl) (.bool true) (Quiet.pure (fun _ => by kernel_rfl)) ?_
  refine Sy.nil ?_
  refine Sy.then_ ?_
  refine Sy.cond_t (by kernel_rfl) (by kernel_rfl) ?_
  refine Sy.skip ?_
  refine Sy.then_ ?_
  refine Sy.seq ?_
  refine Sy.block ?_
  refine Sy.region ?_
  refine Sy.step (by kernel_rfl) (.slice (some ⟨q6, 0, none⟩) 6 c6) (Quiet.pure (fun _ => by kernel_rfl)) ?_
  refine Sy.step (by kernel_rfl) (.int .i64 6) (Quiet.pure (fun _ => by kernel_rfl)) ?_
  refine Sy.step (by kernel_rfl) (.pointer (some ⟨g0, 6, none⟩)) (Quiet.pure (fun _ => by kernel_rfl)) ?_
  refine Sy.step (by kernel_rfl) (bv (l.getD 6 0)) (Quiet.cell 0 g0 6 85 5 (l.map bv).toArray _ _ rfl (by kernel_rfl) (by kernel_rfl) Try.underlying5 rfl _ (key_at l hl 6 (by decide))) ?_
  refine Sy.make (by kernel_rfl) 5 #[bv (l.getD 6 0)] (fun g => .slice (some ⟨g, 0, none⟩) 1 1) (fun _ => by kernel_rfl) (fun g8 => ?_)
  refine Sy.append (by kernel_rfl) 41 5 _ _ Try.underlying41 info_u8 rfl rfl rfl rfl _ _ rfl 2 q6 6 c6 ([bv (l.getD 0 0), bv (l.getD 1 0), bv (l.getD 2 0), bv (l.getD 3 0), bv (l.getD 4 0), bv (l.getD 5 0)] ++ s6).toArray [bv (l.getD 0 0), bv (l.getD 1 0), bv (l.getD 2 0), bv (l.getD 3 0), bv (l.getD 4 0), bv (l.getD 5 0)] (by kernel_rfl) (by kernel_rfl) (by kernel_rfl) rfl (by rw [← e6]; simp only [List.size_toArray, List.length_append, List.length_cons, List.length_nil]; omega) m6 3 g8 0 1 1 5 #[bv (l.getD 6 0)] [bv (l.getD 6 0)] (by kernel_rfl) (by kernel_rfl) (by kernel_rfl) rfl (by intro u hu; simp only [List.mem_cons, List.not_mem_nil, or_false] at hu; subst hu; rfl) (by decide) (fun q7 c7 s7 e7 m7 => ?_)
  refine Sy.step (by kernel_rfl) (.slice (some ⟨q7, 0, none⟩) 7 c7) (Quiet.pure (fun _ => by kernel_rfl)) ?_
  refine Sy.nil ?_
  refine Sy.in_ ?_
  refine Sy.then_ ?_
  refine Sy.region ?_
  refine Sy.step (by kernel_rfl) (.int .i64 6) (Quiet.pure (fun _ => by kernel_rfl)) ?_
  refine Sy.step (by kernel_rfl) (.int .i64 7) (Quiet.pure (fun _ => by kernel_rfl)) ?_
  refine Sy.step (by kernel_rfl) (.int .i64 7) (Quiet.pure (fun _ => by kernel_rfl)) ?_
  refine Sy.nil ?_
  refine Sy.again ?_
  refine Sy.tidyR (G := [(1, .pointer (some ⟨g0, 0, none⟩)), (2, .pointer (some ⟨g1, 0, none⟩)), (4, .slice (some ⟨q7, 0, none⟩) 7 c7), (5, .int .i64 7)]) (M := [(g0, 85, (l.map bv).toArray), (g1, 27, (pcs 0 0 false)), (q7, 5, ([bv (l.getD 0 0), bv (l.getD 1 0), bv (l.getD 2 0), bv (l.getD 3 0), bv (l.getD 4 0), bv (l.getD 5 0), bv (l.getD 6 0)] ++ s7).toArray)]) [true, true, true, false] (by kernel_rfl) (all_cons (by kernel_rfl) (all_cons (by kernel_rfl) (all_cons (by kernel_rfl) (all_cons (by kernel_rfl) all_nil)))) ?_
  refine Sy.round ?_
  refine Sy.seq ?_
  refine Sy.seq ?_
  refine Sy.region ?_
  refine Sy.step (by kernel_rfl) (.int .i64 7) (Quiet.pure (fun _ => by kernel_rfl)) ?_
  refine Sy.step (by kernel_rfl) (.bool true) (Quiet.pure (fun _ => by kernel_rfl)) ?_
  refine Sy.nil ?_
  refine Sy.then_ ?_
  refine Sy.cond_t (by kernel_rfl) (by kernel_rfl) ?_
  refine Sy.skip ?_
  refine Sy.then_ ?_
  refine Sy.seq ?_
  refine Sy.block ?_
  refine Sy.region ?_
  refine Sy.step (by kernel_rfl) (.slice (some ⟨q7, 0, none⟩) 7 c7) (Quiet.pure (fun _ => by kernel_rfl)) ?_
  refine Sy.step (by kernel_rfl) (.int .i64 7) (Quiet.pure (fun _ => by kernel_rfl)) ?_
  refine Sy.step (by kernel_rfl) (.pointer (some ⟨g0, 7, none⟩)) (Quiet.pure (fun _ => by kernel_rfl)) ?_
  refine Sy.step (by kernel_rfl) (bv (l.getD 7 0)) (Quiet.cell 0 g0 7 85 5 (l.map bv).toArray _ _ rfl (by kernel_rfl) (by kernel_rfl) Try.underlying5 rfl _ (key_at l hl 7 (by decide))) ?_
  refine Sy.make (by kernel_rfl) 5 #[bv (l.getD 7 0)] (fun g => .slice (some ⟨g, 0, none⟩) 1 1) (fun _ => by kernel_rfl) (fun g9 => ?_)
  refine Sy.append (by kernel_rfl) 41 5 _ _ Try.underlying41 info_u8 rfl rfl rfl rfl _ _ rfl 2 q7 7 c7 ([bv (l.getD 0 0), bv (l.getD 1 0), bv (l.getD 2 0), bv (l.getD 3 0), bv (l.getD 4 0), bv (l.getD 5 0), bv (l.getD 6 0)] ++ s7).toArray [bv (l.getD 0 0), bv (l.getD 1 0), bv (l.getD 2 0), bv (l.getD 3 0), bv (l.getD 4 0), bv (l.getD 5 0), bv (l.getD 6 0)] (by kernel_rfl) (by kernel_rfl) (by kernel_rfl) rfl (by rw [← e7]; simp only [List.size_toArray, List.length_append, List.length_cons, List.length_nil]; omega) m7 3 g9 0 1 1 5 #[bv (l.getD 7 0)] [bv (l.getD 7 0)] (by kernel_rfl) (by kernel_rfl) (by kernel_rfl) rfl (by intro u hu; simp only [List.mem_cons, List.not_mem_nil, or_false] at hu; subst hu; rfl) (by decide) (fun q8 c8 s8 e8 m8 => ?_)
  refine Sy.step (by kernel_rfl) (.slice (some ⟨q8, 0, none⟩) 8 c8) (Quiet.pure (fun _ => by kernel_rfl)) ?_
  refine Sy.nil ?_
  refine Sy.in_ ?_
  refine Sy.then_ ?_
  refine Sy.region ?_
  refine Sy.step (by kernel_rfl) (.int .i64 7) (Quiet.pure (fun _ => by kernel_rfl)) ?_
  refine Sy.step (by kernel_rfl) (.int .i64 8) (Quiet.pure (fun _ => by kernel_rfl)) ?_
  refine Sy.step (by kernel_rfl) (.int .i64 8) (Quiet.pure (fun _ => by kernel_rfl)) ?_
  refine Sy.nil ?_
  refine Sy.again ?_
  refine Sy.tidyR (G := [(1, .pointer (some ⟨g0, 0, none⟩)), (2, .pointer (some ⟨g1, 0, none⟩)), (4, .slice (some ⟨q8, 0, none⟩) 8 c8), (5, .int .i64 8)]) (M := [(g0, 85, (l.map bv).toArray), (g1, 27, (pcs 0 0 false)), (q8, 5, ([bv (l.getD 0 0), bv (l.getD 1 0), bv (l.getD 2 0), bv (l.getD 3 0), bv (l.getD 4 0), bv (l.getD 5 0), bv (l.getD 6 0), bv (l.getD 7 0)] ++ s8).toArray)]) [true, true, true, false] (by kernel_rfl) (all_cons (by kernel_rfl) (all_cons (by kernel_rfl) (all_cons (by kernel_rfl) (all_cons (by kernel_rfl) all_nil)))) ?_
  refine Sy.round ?_
  refine Sy.seq ?_
  refine Sy.seq ?_
  refine Sy.region ?_
  refine Sy.step (by kernel_rfl) (.int .i64 8) (Quiet.pure (fun _ => by kernel_rfl)) ?_
  refine Sy.step (by kernel_rfl) (.bool true) (Quiet.pure (fun _ => by kernel_rfl)) ?_
  refine Sy.nil ?_
  refine Sy.then_ ?_
  refine Sy.cond_t (by kernel_rfl) (by kernel_rfl) ?_
  refine Sy.skip ?_
  refine Sy.then_ ?_
  refine Sy.seq ?_
  refine Sy.block ?_
  refine Sy.region ?_
  refine Sy.step (by kernel_rfl) (.slice (some ⟨q8, 0, none⟩) 8 c8) (Quiet.pure (fun _ => by kernel_rfl)) ?_
  refine Sy.step (by kernel_rfl) (.int .i64 8) (Quiet.pure (fun _ => by kernel_rfl)) ?_
  refine Sy.step (by kernel_rfl) (.pointer (some ⟨g0, 8, none⟩)) (Quiet.pure (fun _ => by kernel_rfl)) ?_
  refine Sy.step (by kernel_rfl) (bv (l.getD 8 0)) (Quiet.cell 0 g0 8 85 5 (l.map bv).toArray _ _ rfl (by kernel_rfl) (by kernel_rfl) Try.underlying5 rfl _ (key_at l hl 8 (by decide))) ?_
  refine Sy.make (by kernel_rfl) 5 #[bv (l.getD 8 0)] (fun g => .slice (some ⟨g, 0, none⟩) 1 1) (fun _ => by kernel_rfl) (fun g10 => ?_)
  refine Sy.append (by kernel_rfl) 41 5 _ _ Try.underlying41 info_u8 rfl rfl rfl rfl _ _ rfl 2 q8 8 c8 ([bv (l.getD 0 0), bv (l.getD 1 0), bv (l.getD 2 0), bv (l.getD 3 0), bv (l.getD 4 0), bv (l.getD 5 0), bv (l.getD 6 0), bv (l.getD 7 0)] ++ s8).toArray [bv (l.getD 0 0), bv (l.getD 1 0), bv (l.getD 2 0), bv (l.getD 3 0), bv (l.getD 4 0), bv (l.getD 5 0), bv (l.getD 6 0), bv (l.getD 7 0)] (by kernel_rfl) (by kernel_rfl) (by kernel_rfl) rfl (by rw [← e8]; simp only [List.size_toArray, List.length_append, List.length_cons, List.length_nil]; omega) m8 3 g10 0 1 1 5 #[bv (l.getD 8 0)] [bv (l.getD 8 0)] (by kernel_rfl) (by kernel_rfl) (by kernel_rfl) rfl (by intro u hu; simp only [List.mem_cons, List.not_mem_nil, or_false] at hu; subst hu; rfl) (by decide) (fun q9 c9 s9 e9 m9 => ?_)
  refine Sy.step (by kernel_rfl) (.slice (some ⟨q9, 0, none⟩) 9 c9) (Quiet.pure (fun _ => by kernel_rfl)) ?_
  refine Sy.nil ?_
  refine Sy.in_ ?_
  refine Sy.then_ ?_
  refine Sy.region ?_
  refine Sy.step (by kernel_rfl) (.int .i64 8) (Quiet.pure (fun _ => by kernel_rfl)) ?_
  refine Sy.step (by kernel_rfl) (.int .i64 9) (Quiet.pure (fun _ => by kernel_rfl)) ?_
  refine Sy.step (by kernel_rfl) (.int .i64 9) (Quiet.pure (fun _ => by kernel_rfl)) ?_
  refine Sy.nil ?_
  refine Sy.again ?_
  refine Sy.tidyR (G := [(1, .pointer (some ⟨g0, 0, none⟩)), (2, .pointer (some ⟨g1, 0, none⟩)), (4, .slice (some ⟨q9, 0, none⟩) 9 c9), (5, .int .i64 9)]) (M := [(g0, 85, (l.map bv).toArray), (g1, 27, (pcs 0 0 false)), (q9, 5, ([bv (l.getD 0 0), bv (l.getD 1 0), bv (l.getD 2 0), bv (l.getD 3 0), bv (l.getD 4 0), bv (l.getD 5 0), bv (l.getD 6 0), bv (l.getD 7 0), bv (l.getD 8 0)] ++ s9).toArray)]) [true, true, true, false] (by kernel_rfl) (all_cons (by kernel_rfl) (all_cons (by kernel_rfl) (all_cons (by kernel_rfl) (all_cons (by kernel_rfl) all_nil)))) ?_
  refine Sy.round ?_
  refine Sy.seq ?_
  refine Sy.seq ?_
  refine Sy.region ?_
  refine Sy.step (by kernel_rfl) (.int .i64 9) (Quiet.pure (fun _ => by kernel_rfl)) ?_
  refine Sy.step (by kernel_rfl) (.bool true) (Quiet.pure (fun _ => by kernel_rfl)) ?_
  refine Sy.nil ?_
  refine Sy.then_ ?_
  refine Sy.cond_t (by kernel_rfl) (by kernel_rfl) ?_
  refine Sy.skip ?_
  refine Sy.then_ ?_
  refine Sy.seq ?_
  refine Sy.block ?_
  refine Sy.region ?_
  refine Sy.step (by kernel_rfl) (.slice (some ⟨q9, 0, none⟩) 9 c9) (Quiet.pure (fun _ => by kernel_rfl)) ?_
  refine Sy.step (by kernel_rfl) (.int .i64 9) (Quiet.pure (fun _ => by kernel_rfl)) ?_
  refine Sy.step (by kernel_rfl) (.pointer (some ⟨g0, 9, none⟩)) (Quiet.pure (fun _ => by kernel_rfl)) ?_
  refine Sy.step (by kernel_rfl) (bv (l.getD 9 0)) (Quiet.cell 0 g0 9 85 5 (l.map bv).toArray _ _ rfl (by kernel_rfl) (by kernel_rfl) Try.underlying5 rfl _ (key_at l hl 9 (by decide))) ?_
  refine Sy.make (by kernel_rfl) 5 #[bv (l.getD 9 0)] (fun g => .slice (some ⟨g, 0, none⟩) 1 1) (fun _ => by kernel_rfl) (fun g11 => ?_)
  refine Sy.append (by kernel_rfl) 41 5 _ _ Try.underlying41 info_u8 rfl rfl rfl rfl _ _ rfl 2 q9 9 c9 ([bv (l.getD 0 0), bv (l.getD 1 0), bv (l.getD 2 0), bv (l.getD 3 0), bv (l.getD 4 0), bv (l.getD 5 0), bv (l.getD 6 0), bv (l.getD 7 0), bv (l.getD 8 0)] ++ s9).toArray [bv (l.getD 0 0), bv (l.getD 1 0), bv (l.getD 2 0), bv (l.getD 3 0), bv (l.getD 4 0), bv (l.getD 5 0), bv (l.getD 6 0), bv (l.getD 7 0), bv (l.getD 8 0)] (by kernel_rfl) (by kernel_rfl) (by kernel_rfl) rfl (by rw [← e9]; simp only [List.size_toArray, List.length_append, List.length_cons, List.length_nil]; omega) m9 3 g11 0 1 1 5 #[bv (l.getD 9 0)] [bv (l.getD 9 0)] (by kernel_rfl) (by kernel_rfl) (by kernel_rfl) rfl (by intro u hu; simp only [List.mem_cons, List.not_mem_nil, or_false] at hu; subst hu; rfl) (by decide) (fun q10 c10 s10 e10 m10 => ?_)
  refine Sy.step (by kernel_rfl) (.slice (some ⟨q10, 0, none⟩) 10 c10) (Quiet.pure (fun _ => by kernel_rfl)) ?_
  refine Sy.nil ?_
  refine Sy.in_ ?_
  refine Sy.then_ ?_
  refine Sy.region ?_
  refine Sy.step (by kernel_rfl) (.int .i64 9) (Quiet.pure (fun _ => by kernel_rfl)) ?_
  refine Sy.step (by kernel_rfl) (.int .i64 10) (Quiet.pure (fun _ => by kernel_rfl)) ?_
  refine Sy.step (by kernel_rfl) (.int .i64 10) (Quiet.pure (fun _ => by kernel_rfl)) ?_
  refine Sy.nil ?_
  refine Sy.again ?_
  refine Sy.tidyR (G := [(1, .pointer (some ⟨g0, 0, none⟩)), (2, .pointer (some ⟨g1, 0, none⟩)), (4, .slice (some ⟨q10, 0, none⟩) 10 c10), (5, .int .i64 10)]) (M := [(g0, 85, (l.map bv).toArray), (g1, 27, (pcs 0 0 false)), (q10, 5, ([bv (l.getD 0 0), bv (l.getD 1 0), bv (l.getD 2 0), bv (l.getD 3 0), bv (l.getD 4 0), bv (l.getD 5 0), bv (l.getD 6 0), bv (l.getD 7 0), bv (l.getD 8 0), bv (l.getD 9 0)] ++ s10).toArray)]) [true, true, true, false] (by kernel_rfl) (all_cons (by kernel_rfl) (all_cons (by kernel_rfl) (all_cons (by kernel_rfl) (all_cons (by kernel_rfl) all_nil)))) ?_
  refine Sy.round ?_
  refine Sy.seq ?_
  refine Sy.seq ?_
  refine Sy.region ?_
  refine Sy.step (by kernel_rfl) (.int .i64 10) (Quiet.pure (fun _ => by kernel_rfl)) ?_
  refine Sy.step (by kernel_rfl) (.bool true) (Quiet.pure (fun _ => by kernel_rfl)) ?_
  refine Sy.nil ?_
  refine Sy.then_ ?_
  refine Sy.cond_t (by kernel_rfl) (by kernel_rfl) ?_
  refine Sy.skip ?_
  refine Sy.then_ ?_
  refine Sy.seq ?_
  refine Sy.block ?_
  refine Sy.region ?_
  refine Sy.step (by kernel_rfl) (.slice (some ⟨q10, 0, none⟩) 10 c10) (Quiet.pure (fun _ => by kernel_rfl)) ?_
  refine Sy.step (by kernel_rfl) (.int .i64 10) (Quiet.pure (fun _ => by kernel_rfl)) ?_
  refine Sy.step (by kernel_rfl) (.pointer (some ⟨g0, 10, none⟩)) (Quiet.pure (fun _ => by kernel_rfl)) ?_
  refine Sy.step (by kernel_rfl) (bv (l.getD 10 0)) (Quiet.cell 0 g0 10 85 5 (l.map bv).toArray _ _ rfl (by kernel_rfl) (by kernel_rfl) Try.underlying5 rfl _ (key_at l hl 10 (by decide))) ?_
  refine Sy.make (by kernel_rfl) 5 #[bv (l.getD 10 0)] (fun g => .slice (some ⟨g, 0, none⟩) 1 1) (fun _ => by kernel_rfl) (fun g12 => ?_)
  refine Sy.append (by kernel_rfl) 41 5 _ _ Try.underlying41 info_u8 rfl rfl rfl rfl _ _ rfl 2 q10 10 c10 ([bv (l.getD 0 0), bv (l.getD 1 0), bv (l.getD 2 0), bv (l.getD 3 0), bv (l.getD 4 0), bv (l.getD 5 0), bv (l.getD 6 0), bv (l.getD 7 0), bv (l.getD 8 0), bv (l.getD 9 0)] ++ s10).toArray [bv (l.getD 0 0), bv (l.getD 1 0), bv (l.getD 2 0), bv (l.getD 3 0), bv (l.getD 4 0), bv (l.getD 5 0), bv (l.getD 6 0), bv (l.getD 7 0), bv (l.getD 8 0), bv (l.getD 9 0)] (by kernel_rfl) (by kernel_rfl) (by kernel_rfl) rfl (by rw [← e10]; simp only [List.size_toArray, List.length_append, List.length_cons, List.length_nil]; omega) m10 3 g12 0 1 1 5 #[bv (l.getD 10 0)] [bv (l.getD 10 0)] (by kernel_rfl) (by kernel_rfl) (by kernel_rfl) rfl (by intro u hu; simp only [List.mem_cons, List.not_mem_nil, or_false] at hu; subst hu; rfl) (by decide) (fun q11 c11 s11 e11 m11 => ?_)
  refine Sy.step (by kernel_rfl) (.slice (some ⟨q11, 0, none⟩) 11 c11) (Quiet.pure (fun _ => by kernel_rfl)) ?_
  refine Sy.nil ?_
  refine Sy.in_ ?_
  refine Sy.then_ ?_
  refine Sy.region ?_
  refine Sy.step (by kernel_rfl) (.int .i64 10) (Quiet.pure (fun _ => by kernel_rfl)) ?_
  refine Sy.step (by kernel_rfl) (.int .i64 11) (Quiet.pure (fun _ => by kernel_rfl)) ?_
  refine Sy.step (by kernel_rfl) (.int .i64 11) (Quiet.pure (fun _ => by kernel_rfl)) ?_
  refine Sy.nil ?_
  refine Sy.again ?_
  refine Sy.tidyR (G := [(1, .pointer (some ⟨g0, 0, none⟩)), (2, .pointer (some ⟨g1, 0, none⟩)), (4, .slice (some ⟨q11, 0, none⟩) 11 c11), (5, .int .i64 11)]) (M := [(g0, 85, (l.map bv).toArray), (g1, 27, (pcs 0 0 false)), (q11, 5, ([bv (l.getD 0 0), bv (l.getD 1 0), bv (l.getD 2 0), bv (l.getD 3 0), bv (l.getD 4 0), bv (l.getD 5 0), bv (l.getD 6 0), bv (l.getD 7 0), bv (l.getD 8 0), bv (l.getD 9 0), bv (l.getD 10 0)] ++ s11).toArray)]) [true, true, true, false] (by kernel_rfl) (all_cons (by kernel_rfl) (all_cons (by kernel_rfl) (all_cons (by kernel_rfl) (all_cons (by kernel_rfl) all_nil)))) ?_
  refine Sy.round ?_
  refine Sy.seq ?_
  refine Sy.seq ?_
  refine Sy.region ?_
  refine Sy.step (by kernel_rfl) (.int .i64 11) (Quiet.pure (fun _ => by kernel_rfl)) ?_
  refine Sy.step (by kernel_rfl) (.bool true) (Quiet.pure (fun _ => by kernel_rfl)) ?_
  refine Sy.nil ?_
  refine Sy.then_ ?_
  refine Sy.cond_t (by kernel_rfl) (by kernel_rfl) ?_
  refine Sy.skip ?_
  refine Sy.then_ ?_
  refine Sy.seq ?_
  refine Sy.block ?_
  refine Sy.region ?_
  refine Sy.step (by kernel_rfl) (.slice (some ⟨q11, 0, none⟩) 11 c11) (Quiet.pure (fun _ => by kernel_rfl)) ?_
  refine Sy.step (by kernel_rfl) (.int .i64 11) (Quiet.pure (fun _ => by kernel_rfl)) ?_
  refine Sy.step (by kernel_rfl) (.pointer (some ⟨g0, 11, none⟩)) (Quiet.pure (fun _ => by kernel_rfl)) ?_
  refine Sy.step (by kernel_rfl) (bv (l.getD 11 0)) (Quiet.cell 0 g0 11 85 5 (l.map bv).toArray _ _ rfl (by kernel_rfl) (by kernel_rfl) Try.underlying5 rfl _ (key_at l hl 11 (by decide))) ?_
  refine Sy.make (by kernel_rfl) 5 #[bv (l.getD 11 0)] (fun g => .slice (some ⟨g, 0, none⟩) 1 1) (fun _ => by kernel_rfl) (fun g13 => ?_)
  refine Sy.append (by kernel_rfl) 41 5 _ _ Try.underlying41 info_u8 rfl rfl rfl rfl _ _ rfl 2 q11 11 c11 ([bv (l.getD 0 0), bv (l.getD 1 0), bv (l.getD 2 0), bv (l.getD 3 0), bv (l.getD 4 0), bv (l.getD 5 0), bv (l.getD 6 0), bv (l.getD 7 0), bv (l.getD 8 0), bv (l.getD 9 0), bv (l.getD 10 0)] ++ s11).toArray [bv (l.getD 0 0), bv (l.getD 1 0), bv (l.getD 2 0), bv (l.getD 3 0), bv (l.getD 4 0), bv (l.getD 5 0), bv (l.getD 6 0), bv (l.getD 7 0), bv (l.getD 8 0), bv (l.getD 9 0), bv (l.getD 10 0)] (by kernel_rfl) (by kernel_rfl) (by kernel_rfl) rfl (by rw [← e11]; simp only [List.size_toArray, List.length_append, List.length_cons, List.length_nil]; omega) m11 3 g13 0 1 1 5 #[bv (l.getD 11 0)] [bv (l.getD 11 0)] (by kernel_rfl) (by kernel_rfl) (by kernel_rfl) rfl (by intro u hu; simp only [List.mem_cons, List.not_mem_nil, or_false] at hu; subst hu; rfl) (by decide) (fun q12 c12 s12 e12 m12 => ?_)
  refine Sy.step (by kernel_rfl) (.slice (some ⟨q12, 0, none⟩) 12 c12) (Quiet.pure (fun _ => by kernel_rfl)) ?_
  refine Sy.nil ?_
  refine Sy.in_ ?_
  refine Sy.then_ ?_
  refine Sy.region ?_
  refine Sy.step (by kernel_rfl) (.int .i64 11) (Quiet.pure (fun _ => by kernel_rfl)) ?_
  refine Sy.step (by kernel_rfl) (.int .i64 12) (Quiet.pure (fun _ => by kernel_rfl)) ?_
  refine Sy.step (by kernel_rfl) (.int .i64 12) (Quiet.pure (fun _ => by kernel_rfl)) ?_
  refine Sy.nil ?_
  refine Sy.again ?_
  refine Sy.tidyR (G := [(1, .pointer (some ⟨g0, 0, none⟩)), (2, .pointer (some ⟨g1, 0, none⟩)), (4, .slice (some ⟨q12, 0, none⟩) 12 c12), (5, .int .i64 12)]) (M := [(g0, 85, (l.map bv).toArray), (g1, 27, (pcs 0 0 false)), (q12, 5, ([bv (l.getD 0 0), bv (l.getD 1 0), bv (l.getD 2 0), bv (l.getD 3 0), bv (l.getD 4 0), bv (l.getD 5 0), bv (l.getD 6 0), bv (l.getD 7 0), bv (l.getD 8 0), bv (l.getD 9 0), bv (l.getD 10 0), bv (l.getD 11 0)] ++ s12).toArray)]) [true, true, true, false] (by kernel_rfl) (all_cons (by kernel_rfl) (all_cons (by kernel_rfl) (all_cons (by kernel_rfl) (all_cons (by kernel_rfl) all_nil)))) ?_
  refine Sy.round ?_
  refine Sy.seq ?_
  refine Sy.seq ?_
  refine Sy.region ?_
  refine Sy.step (by kernel_rfl) (.int .i64 12) (Quiet.pure (fun _ => by kernel_rfl)) ?_
  refine Sy.step (by kernel_rfl) (.bool true) (Quiet.pure (fun _ => by kernel_rfl)) ?_
  refine Sy.nil ?_
  refine Sy.then_ ?_
  refine Sy.cond_t (by kernel_rfl) (by kernel_rfl) ?_
  refine Sy.skip ?_
  refine Sy.then_ ?_
  refine Sy.seq ?_
  refine Sy.block ?_
  refine Sy.region ?_
  refine Sy.step (by kernel_rfl) (.slice (some ⟨q12, 0, none⟩) 12 c12) (Quiet.pure (fun _ => by kernel_rfl)) ?_
  refine Sy.step (by kernel_rfl) (.int .i64 12) (Quiet.pure (fun _ => by kernel_rfl)) ?_
  refine Sy.step (by kernel_rfl) (.pointer (some ⟨g0, 12, none⟩)) (Quiet.pure (fun _ => by kernel_rfl)) ?_
  refine Sy.step (by kernel_rfl) (bv (l.getD 12 0)) (Quiet.cell 0 g0 12 85 5 (l.map bv).toArray _ _ rfl (by kernel_rfl) (by kernel_rfl) Try.underlying5 rfl _ (key_at l hl 12 (by decide))) ?_
  refine Sy.make (by kernel_rfl) 5 #[bv (l.getD 12 0)] (fun g => .slice (some ⟨g, 0, none⟩) 1 1) (fun _ => by kernel_rfl) (fun g14 => ?_)
  refine Sy.append (by kernel_rfl) 41 5 _ _ Try.underlying41 info_u8 rfl rfl rfl rfl _ _ rfl 2 q12 12 c12 ([bv (l.getD 0 0), bv (l.getD 1 0), bv (l.getD 2 0), bv (l.getD 3 0), bv (l.getD 4 0), bv (l.getD 5 0), bv (l.getD 6 0), bv (l.getD 7 0), bv (l.getD 8 0), bv (l.getD 9 0), bv (l.getD 10 0), bv (l.getD 11 0)] ++ s12).toArray [bv (l.getD 0 0), bv (l.getD 1 0), bv (l.getD 2 0), bv (l.getD 3 0), bv (l.getD 4 0), bv (l.getD 5 0), bv (l.getD 6 0), bv (l.getD 7 0), bv (l.getD 8 0), bv (l.getD 9 0), bv (l.getD 10 0), bv (l.getD 11 0)] (by kernel_rfl) (by kernel_rfl) (by kernel_rfl) rfl (by rw [← e12]; simp only [List.size_toArray, List.length_append, List.length_cons, List.length_nil]; omega) m12 3 g14 0 1 1 5 #[bv (l.getD 12 0)] [bv (l.getD 12 0)] (by kernel_rfl) (by kernel_rfl) (by kernel_rfl) rfl (by intro u hu; simp only [List.mem_cons, List.not_mem_nil, or_false] at hu; subst hu; rfl) (by decide) (fun q13 c13 s13 e13 m13 => ?_)
  refine Sy.step (by kernel_rfl) (.slice (some ⟨q13, 0, none⟩) 13 c13) (Quiet.pure (fun _ => by kernel_rfl)) ?_
  refine Sy.nil ?_
  refine Sy.in_ ?_
  refine Sy.then_ ?_
  refine Sy.region ?_
  refine Sy.step (by kernel_rfl) (.int .i64 12) (Quiet.pure (fun _ => by kernel_rfl)) ?_
  refine Sy.step (by kernel_rfl) (.int .i64 13) (Quiet.pure (fun _ => by kernel_rfl)) ?_
  refine Sy.step (by kernel_rfl) (.int .i64 13) (Quiet.pure (fun _ => by kernel_rfl)) ?_
  refine Sy.nil ?_
  refine Sy.again ?_
  refine Sy.tidyR (G := [(1, .pointer (some ⟨g0, 0, none⟩)), (2, .pointer (some ⟨g1, 0, none⟩)), (4, .slice (some ⟨q13, 0, none⟩) 13 c13), (5, .int .i64 13)]) (M := [(g0, 85, (l.map bv).toArray), (g1, 27, (pcs 0 0 false)), (q13, 5, ([bv (l.getD 0 0), bv (l.getD 1 0), bv (l.getD 2 0), bv (l.getD 3 0), bv (l.getD 4 0), bv (l.getD 5 0), bv (l.getD 6 0), bv (l.getD 7 0), bv (l.getD 8 0), bv (l.getD 9 0), bv (l.getD 10 0), bv (l.getD 11 0), bv (l.getD 12 0)] ++ s13).toArray)]) [true, true, true, false] (by kernel_rfl) (all_cons (by kernel_rfl) (all_cons (by kernel_rfl) (all_cons (by kernel_rfl) (all_cons (by kernel_rfl) all_nil)))) ?_
  refine Sy.round ?_
  refine Sy.seq ?_
  refine Sy.seq ?_
  refine Sy.region ?_
  refine Sy.step (by kernel_rfl) (.int .i64 13) (Quiet.pure (fun _ => by kernel_rfl)) ?_
  refine Sy.step (by kernel_rfl) (.bool true) (Quiet.pure (fun _ => by kernel_rfl)) ?_
  refine Sy.nil ?_
  refine Sy.then_ ?_
  refine Sy.cond_t (by kernel_rfl) (by kernel_rfl) ?_
  refine Sy.skip ?_
  refine Sy.then_ ?_
  refine Sy.seq ?_
  refine Sy.block ?_
  refine Sy.region ?_
  refine Sy.step (by kernel_rfl) (.slice (some ⟨q13, 0, none⟩) 13 c13) (Quiet.pure (fun _ => by kernel_rfl)) ?_
  refine Sy.step (by kernel_rfl) (.int .i64 13) (Quiet.pure (fun _ => by kernel_rfl)) ?_
  refine Sy.step (by kernel_rfl) (.pointer (some ⟨g0, 13, none⟩)) (Quiet.pure (fun _ => by kernel_rfl)) ?_
  refine Sy.step (by kernel_rfl) (bv (l.getD 13 0)) (Quiet.cell 0 g0 13 85 5 (l.map bv).toArray _ _ rfl (by kernel_rfl) (by kernel_rfl) Try.underlying5 rfl _ (key_at l hl 13 (by decide))) ?_
  refine Sy.make (by kernel_rfl) 5 #[bv (l.getD 13 0)] (fun g => .slice (some ⟨g, 0, none⟩) 1 1) (fun _ => by kernel_rfl) (fun g15 => ?_)
  refine Sy.append (by kernel_rfl) 41 5 _ _ Try.underlying41 info_u8 rfl rfl rfl rfl _ _ rfl 2 q13 13 c13 ([bv (l.getD 0 0), bv (l.getD 1 0), bv (l.getD 2 0), bv (l.getD 3 0), bv (l.getD 4 0), bv (l.getD 5 0), bv (l.getD 6 0), bv (l.getD 7 0), bv (l.getD 8 0), bv (l.getD 9 0), bv (l.getD 10 0), bv (l.getD 11 0), bv (l.getD 12 0)] ++ s13).toArray [bv (l.getD 0 0), bv (l.getD 1 0), bv (l.getD 2 0), bv (l.getD 3 0), bv (l.getD 4 0), bv (l.getD 5 0), bv (l.getD 6 0), bv (l.getD 7 0), bv (l.getD 8 0), bv (l.getD 9 0), bv (l.getD 10 0), bv (l.getD 11 0), bv (l.getD 12 0)] (by kernel_rfl) (by kernel_rfl) (by kernel_rfl) rfl (by rw [← e13]; simp only [List.size_toArray, List.length_append, List.length_cons, List.length_nil]; omega) m13 3 g15 0 1 1 5 #[bv (l.getD 13 0)] [bv (l.getD 13 0)] (by kernel_rfl) (by kernel_rfl) (by kernel_rfl) rfl (by intro u hu; simp only [List.mem_cons, List.not_mem_nil, or_false] at hu; subst hu; rfl) (by decide) (fun q14 c14 s14 e14 m14 => ?_)
  refine Sy.step (by kernel_rfl) (.slice (some ⟨q14, 0, none⟩) 14 c14) (Quiet.pure (fun _ => by kernel_rfl)) ?_
  refine Sy.nil ?_
  refine Sy.in_ ?_
  refine Sy.then_ ?_
  refine Sy.region ?_
  refine Sy.step (by kernel_rfl) (.int .i64 13) (Quiet.pure (fun _ => by kernel_rfl)) ?_
  refine Sy.step (by kernel_rfl) (.int .i64 14) (Quiet.pure (fun _ => by kernel_rfl)) ?_
  refine Sy.step (by kernel_rfl) (.int .i64 14) (Quiet.pure (fun _ => by kernel_rfl)) ?_
  refine Sy.nil ?_
  refine Sy.again ?_
  refine Sy.tidyR (G := [(1, .pointer (some ⟨g0, 0, none⟩)), (2, .pointer (some ⟨g1, 0, none⟩)), (4, .slice (some ⟨q14, 0, none⟩) 14 c14), (5, .int .i64 14)]) (M := [(g0, 85, (l.map bv).toArray), (g1, 27, (pcs 0 0 false)), (q14, 5, ([bv (l.getD 0 0), bv (l.getD 1 0), bv (l.getD 2 0), bv (l.getD 3 0), bv (l.getD 4 0), bv (l.getD 5 0), bv (l.getD 6 0), bv (l.getD 7 0), bv (l.getD 8 0), bv (l.getD 9 0), bv (l.getD 10 0), bv (l.getD 11 0), bv (l.getD 12 0), bv (l.getD 13 0)] ++ s14).toArray)]) [true, true, true, false] (by kernel_rfl) (all_cons (by kernel_rfl) (all_cons (by kernel_rfl) (all_cons (by kernel_rfl) (all_cons (by kernel_rfl) all_nil)))) ?_
  refine Sy.round ?_
  refine Sy.seq ?_
  refine Sy.seq ?_
  refine Sy.region ?_
  refine Sy.step (by kernel_rfl) (.int .i64 14) (Quiet.pure (fun _ => by kernel_rfl)) ?_
  refine Sy.step (by kernel_rfl) (.bool true) (Quiet.pure (fun _ => by kernel_rfl)) ?_
  refine Sy.nil ?_
  refine Sy.then_ ?_
  refine Sy.cond_t (by kernel_rfl) (by kernel_rfl) ?_
  refine Sy.skip ?_
  refine Sy.then_ ?_
  refine Sy.seq ?_
  refine Sy.block ?_
  refine Sy.region ?_
  refine Sy.step (by kernel_rfl) (.slice (some ⟨q14, 0, none⟩) 14 c14) (Quiet.pure (fun _ => by kernel_rfl)) ?_
  refine Sy.step (by kernel_rfl) (.int .i64 14) (Quiet.pure (fun _ => by kernel_rfl)) ?_
  refine Sy.step (by kernel_rfl) (.pointer (some ⟨g0, 14, none⟩)) (Quiet.pure (fun _ => by kernel_rfl)) ?_
  refine Sy.step (by kernel_rfl) (bv (l.getD 14 0)) (Quiet.cell 0 g0 14 85 5 (l.map bv).toArray _ _ rfl (by kernel_rfl) (by kernel_rfl) Try.underlying5 rfl _ (key_at l hl 14 (by decide))) ?_
  refine Sy.make (by kernel_rfl) 5 #[bv (l.getD 14 0)] (fun g => .slice (some ⟨g, 0, none⟩) 1 1) (fun _ => by kernel_rfl) (fun g16 => ?_)
  refine Sy.append (by kernel_rfl) 41 5 _ _ Try.underlying41 info_u8 rfl rfl rfl rfl _ _ rfl 2 q14 14 c14 ([bv (l.getD 0 0), bv (l.getD 1 0), bv (l.getD 2 0), bv (l.getD 3 0), bv (l.getD 4 0), bv (l.getD 5 0), bv (l.getD 6 0), bv (l.getD 7 0), bv (l.getD 8 0), bv (l.getD 9 0), bv (l.getD 10 0), bv (l.getD 11 0), bv (l.getD 12 0), bv (l.getD 13 0)] ++ s14).toArray [bv (l.getD 0 0), bv (l.getD 1 0), bv (l.getD 2 0), bv (l.getD 3 0), bv (l.getD 4 0), bv (l.getD 5 0), bv (l.getD 6 0), bv (l.getD 7 0), bv (l.getD 8 0), bv (l.getD 9 0), bv (l.getD 10 0), bv (l.getD 11 0), bv (l.getD 12 0), bv (l.getD 13 0)] (by kernel_rfl) (by kernel_rfl) (by kernel_rfl) rfl (by rw [← e14]; simp only [List.size_toArray, List.length_append, List.length_cons, List.length_nil]; omega) m14 3 g16 0 1 1 5 #[bv (l.getD 14 0)] [bv (l.getD 14 0)] (by kernel_rfl) (by kernel_rfl) (by kernel_rfl) rfl (by intro u hu; simp only [List.mem_cons, List.not_mem_nil, or_false] at hu; subst hu; rfl) (by decide) (fun q15 c15 s15 e15 m15 => ?_)
  refine Sy.step (by kernel_rfl) (.slice (some ⟨q15, 0, none⟩) 15 c15) (Quiet.pure (fun _ => by kernel_rfl)) ?_
  refine Sy.nil ?_
  refine Sy.in_ ?_
  refine Sy.then_ ?_
  refine Sy.region ?_
  refine Sy.step (by kernel_rfl) (.int .i64 14) (Quiet.pure (fun _ => by kernel_rfl)) ?_
  refine Sy.step (by kernel_rfl) (.int .i64 15) (Quiet.pure (fun _ => by kernel_rfl)) ?_
  refine Sy.step (by kernel_rfl) (.int .i64 15) (Quiet.pure (fun _ => by kernel_rfl)) ?_
  refine Sy.nil ?_
  refine Sy.again ?_
  refine Sy.tidyR (G := [(1, .pointer (some ⟨g0, 0, none⟩)), (2, .pointer (some ⟨g1, 0, none⟩)), (4, .slice (some ⟨q15, 0, none⟩) 15 c15), (5, .int .i64 15)]) (M := [(g0, 85, (l.map bv).toArray), (g1, 27, (pcs 0 0 false)), (q15, 5, ([bv (l.getD 0 0), bv (l.getD 1 0), bv (l.getD 2 0), bv (l.getD 3 0), bv (l.getD 4 0), bv (l.getD 5 0), bv (l.getD 6 0), bv (l.getD 7 0), bv (l.getD 8 0), bv (l.getD 9 0), bv (l.getD 10 0), bv (l.getD 11 0), bv (l.getD 12 0), bv (l.getD 13 0), bv (l.getD 14 0)] ++ s15).toArray)]) [true, true, true, false] (by kernel_rfl) (all_cons (by kernel_rfl) (all_cons (by kernel_rfl) (all_cons (by kernel_rfl) (all_cons (by kernel_rfl) all_nil)))) ?_
  refine Sy.round ?_
  refine Sy.seq ?_
  refine Sy.seq ?_
  refine Sy.region ?_
  refine Sy.step (by kernel_rfl) (.int .i64 15) (Quiet.pure (fun _ => by kernel_rfl)) ?_
  refine Sy.step (by kernel_rfl) (.bool true) (Quiet.pure (fun _ => by kernel_rfl)) ?_
  refine Sy.nil ?_
  refine Sy.then_ ?_
  refine Sy.cond_t (by kernel_rfl) (by kernel_rfl) ?_
  refine Sy.skip ?_
  refine Sy.then_ ?_
  refine Sy.seq ?_
  refine Sy.block ?_
  refine Sy.region ?_
  refine Sy.step (by kernel_rfl) (.slice (some ⟨q15, 0, none⟩) 15 c15) (Quiet.pure (fun _ => by kernel_rfl)) ?_
  refine Sy.step (by kernel_rfl) (.int .i64 15) (Quiet.pure (fun _ => by kernel_rfl)) ?_
  refine Sy.step (by kernel_rfl) (.pointer (some ⟨g0, 15, none⟩)) (Quiet.pure (fun _ => by kernel_rfl)) ?_
  refine Sy.step (by kernel_rfl) (bv (l.getD 15 0)) (Quiet.cell 0 g0 15 85 5 (l.map bv).toArray _ _ rfl (by kernel_rfl) (by kernel_rfl) Try.underlying5 rfl _ (key_at l hl 15 (by decide))) ?_
  refine Sy.make (by kernel_rfl) 5 #[bv (l.getD 15 0)] (fun g => .slice (some ⟨g, 0, none⟩) 1 1) (fun _ => by kernel_rfl) (fun g17 => ?_)
  refine Sy.append (by kernel_rfl) 41 5 _ _ Try.underlying41 info_u8 rfl rfl rfl rfl _ _ rfl 2 q15 15 c15 ([bv (l.getD 0 0), bv (l.getD 1 0), bv (l.getD 2 0), bv (l.getD 3 0), bv (l.getD 4 0), bv (l.getD 5 0), bv (l.getD 6 0), bv (l.getD 7 0), bv (l.getD 8 0), bv (l.getD 9 0), bv (l.getD 10 0), bv (l.getD 11 0), bv (l.getD 12 0), bv (l.getD 13 0), bv (l.getD 14 0)] ++ s15).toArray [bv (l.getD 0 0), bv (l.getD 1 0), bv (l.getD 2 0), bv (l.getD 3 0), bv (l.getD 4 0), bv (l.getD 5 0), bv (l.getD 6 0), bv (l.getD 7 0), bv (l.getD 8 0), bv (l.getD 9 0), bv (l.getD 10 0), bv (l.getD 11 0), bv (l.getD 12 0), bv (l.getD 13 0), bv (l.getD 14 0)] (by kernel_rfl) (by kernel_rfl) (by kernel_rfl) rfl (by rw [← e15]; simp only [List.size_toArray, List.length_append, List.length_cons, List.length_nil]; omega) m15 3 g17 0 1 1 5 #[bv (l.getD 15 0)] [bv (l.getD 15 0)] (by kernel_rfl) (by kernel_rfl) (by kernel_rfl) rfl (by intro u hu; simp only [List.mem_cons, List.not_mem_nil, or_false] at hu; subst hu; rfl) (by decide) (fun q16 c16 s16 e16 m16 => ?_)
  refine Sy.step (by kernel_rfl) (.slice (some ⟨q16, 0, none⟩) 16 c16) (Quiet.pure (fun _ => by kernel_rfl)) ?_
  refine Sy.nil ?_
  refine Sy.in_ ?_
  refine Sy.then_ ?_
  refine Sy.region ?_
  refine Sy.step (by kernel_rfl) (.int .i64 15) (Quiet.pure (fun _ => by kernel_rfl)) ?_
  refine Sy.step (by kernel_rfl) (.int .i64 16) (Quiet.pure (fun _ => by kernel_rfl)) ?_
  refine Sy.step (by kernel_rfl) (.int .i64 16) (Quiet.pure (fun _ => by kernel_rfl)) ?_
  refine Sy.nil ?_
  refine Sy.again ?_
  refine Sy.tidyR (G := [(1, .pointer (some ⟨g0, 0, none⟩)), (2, .pointer (some ⟨g1, 0, none⟩)), (4, .slice (some ⟨q16, 0, none⟩) 16 c16), (5, .int .i64 16)]) (M := [(g0, 85, (l.map bv).toArray), (g1, 27, (pcs 0 0 false)), (q16, 5, ([bv (l.getD 0 0), bv (l.getD 1 0), bv (l.getD 2 0), bv (l.getD 3 0), bv (l.getD 4 0), bv (l.getD 5 0), bv (l.getD 6 0), bv (l.getD 7 0), bv (l.getD 8 0), bv (l.getD 9 0), bv (l.getD 10 0), bv (l.getD 11 0), bv (l.getD 12 0), bv (l.getD 13 0), bv (l.getD 14 0), bv (l.getD 15 0)] ++ s16).toArray)]) [true, true, true, false] (by kernel_rfl) (all_cons (by kernel_rfl) (all_cons (by kernel_rfl) (all_cons (by kernel_rfl) (all_cons (by kernel_rfl) all_nil)))) ?_
  refine Sy.round ?_
  refine Sy.seq ?_
  refine Sy.seq ?_
  refine Sy.region ?_
  refine Sy.step (by kernel_rfl) (.int .i64 16) (Quiet.pure (fun _ => by kernel_rfl)) ?_
  refine Sy.step (by kernel_rfl) (.bool true) (Quiet.pure (fun _ => by kernel_rfl)) ?_
  refine Sy.nil ?_
  refine Sy.then_ ?_
  refine Sy.cond_t (by kernel_rfl) (by kernel_rfl) ?_
  refine Sy.skip ?_
  refine Sy.then_ ?_
  refine Sy.seq ?_
  refine Sy.block ?_
  refine Sy.region ?_
  refine Sy.step (by kernel_rfl) (.slice (some ⟨q16, 0, none⟩) 16 c16) (Quiet.pure (fun _ => by kernel_rfl)) ?_
  refine Sy.step (by kernel_rfl) (.int .i64 16) (Quiet.pure (fun _ => by kernel_rfl)) ?_
  refine Sy.step (by kernel_rfl) (.pointer (some ⟨g0, 16, none⟩)) (Quiet.pure (fun _ => by kernel_rfl)) ?_
  refine Sy.step (by kernel_rfl) (bv (l.getD 16 0)) (Quiet.cell 0 g0 16 85 5 (l.map bv).toArray _ _ rfl (by kernel_rfl) (by kernel_rfl) Try.underlying5 rfl _ (key_at l hl 16 (by decide))) ?_
  refine Sy.make (by kernel_rfl) 5 #[bv (l.getD 16 0)] (fun g => .slice (some ⟨g, 0, none⟩) 1 1) (fun _ => by kernel_rfl) (fun g18 => ?_)
  refine Sy.append (by kernel_rfl) 41 5 _ _ Try.underlying41 info_u8 rfl rfl rfl rfl _ _ rfl 2 q16 16 c16 ([bv (l.getD 0 0), bv (l.getD 1 0), bv (l.getD 2 0), bv (l.getD 3 0), bv (l.getD 4 0), bv (l.getD 5 0), bv (l.getD 6 0), bv (l.getD 7 0), bv (l.getD 8 0), bv (l.getD 9 0), bv (l.getD 10 0), bv (l.getD 11 0), bv (l.getD 12 0), bv (l.getD 13 0), bv (l.getD 14 0), bv (l.getD 15 0)] ++ s16).toArray [bv (l.getD 0 0), bv (l.getD 1 0), bv (l.getD 2 0), bv (l.getD 3 0), bv (l.getD 4 0), bv (l.getD 5 0), bv (l.getD 6 0), bv (l.getD 7 0), bv (l.getD 8 0), bv (l.getD 9 0), bv (l.getD 10 0), bv (l.getD 11 0), bv (l.getD 12 0), bv (l.getD 13 0), bv (l.getD 14 0), bv (l.getD 15 0)] (by kernel_rfl) (by kernel_rfl) (by kernel_rfl) rfl (by rw [← e16]; simp only [List.size_toArray, List.length_append, List.length_cons, List.length_nil]; omega) m16 3 g18 0 1 1 5 #[bv (l.getD 16 0)] [bv (l.getD 16 0)] (by kernel_rfl) (by kernel_rfl) (by kernel_rfl) rfl (by intro u hu; simp only [List.mem_cons, List.not_mem_nil, or_false] at hu; subst hu; rfl) (by decide) (fun q17 c17 s17 e17 m17 => ?_)
  refine Sy.step (by kernel_rfl) (.slice (some ⟨q17, 0, none⟩) 17 c17) (Quiet.pure (fun _ => by kernel_rfl)) ?_
  refine Sy.nil ?_
  refine Sy.in_ ?_
  refine Sy.then_ ?_
  refine Sy.region ?_
  refine Sy.step (by kernel_rfl) (.int .i64 16) (Quiet.pure (fun _ => by kernel_rfl)) ?_
  refine Sy.step (by kernel_rfl) (.int .i64 17) (Quiet.pure (fun _ => by kernel_rfl)) ?_
  refine Sy.step (by kernel_rfl) (.int .i64 17) (Quiet.pure (fun _ => by kernel_rfl)) ?_
  refine Sy.nil ?_
  refine Sy.again ?_
  refine Sy.tidyR (G := [(1, .pointer (some ⟨g0, 0, none⟩)), (2, .pointer (some ⟨g1, 0, none⟩)), (4, .slice (some ⟨q17, 0, none⟩) 17 c17), (5, .int .i64 17)]) (M := [(g0, 85, (l.map bv).toArray), (g1, 27, (pcs 0 0 false)), (q17, 5, ([bv (l.getD 0 0), bv (l.getD 1 0), bv (l.getD 2 0), bv (l.getD 3 0), bv (l.getD 4 0), bv (l.getD 5 0), bv (l.getD 6 0), bv (l.getD 7 0), bv (l.getD 8 0), bv (l.getD 9 0), bv (l.getD 10 0), bv (l.getD 11 0), bv (l.getD 12 0), bv (l.getD 13 0), bv (l.getD 14 0), bv (l.getD 15 0), bv (l.getD 16 0)] ++ s17).toArray)]) [true, true, true, false] (by kernel_rfl) (all_cons (by kernel_rfl) (all_cons (by kernel_rfl) (all_cons (by kernel_rfl) (all_cons (by kernel_rfl) all_nil)))) ?_
  refine Sy.round ?_
  refine Sy.seq ?_
  refine Sy.seq ?_
  refine Sy.region ?_
  refine Sy.step (by kernel_rfl) (.int .i64 17) (Quiet.pure (fun _ => by kernel_rfl)) ?_
  refine Sy.step (by kernel_rfl) (.bool true) (Quiet.pure (fun _ => by kernel_rfl)) ?_
  refine Sy.nil ?_
  refine Sy.then_ ?_
  refine Sy.cond_t (by kernel_rfl) (by kernel_rfl) ?_
  refine Sy.skip ?_
  refine Sy.then_ ?_
  refine Sy.seq ?_
  refine Sy.block ?_
  refine Sy.region ?_
  refine Sy.step (by kernel_rfl) (.slice (some ⟨q17, 0, none⟩) 17 c17) (Quiet.pure (fun _ => by kernel_rfl)) ?_
  refine Sy.step (by kernel_rfl) (.int .i64 17) (Quiet.pure (fun _ => by kernel_rfl)) ?_
  refine Sy.step (by kernel_rfl) (.pointer (some ⟨g0, 17, none⟩)) (Quiet.pure (fun _ => by kernel_rfl)) ?_
  refine Sy.step (by kernel_rfl) (bv (l.getD 17 0)) (Quiet.cell 0 g0 17 85 5 (l.map bv).toArray _ _ rfl (by kernel_rfl) (by kernel_rfl) Try.underlying5 rfl _ (key_at l hl 17 (by decide))) ?_
  refine Sy.make (by kernel_rfl) 5 #[bv (l.getD 17 0)] (fun g => .slice (some ⟨g, 0, none⟩) 1 1) (fun _ => by kernel_rfl) (fun g19 => ?_)
  refine Sy.append (by kernel_rfl) 41 5 _ _ Try.underlying41 info_u8 rfl rfl rfl rfl _ _ rfl 2 q17 17 c17 ([bv (l.getD 0 0), bv (l.getD 1 0), bv (l.getD 2 0), bv (l.getD 3 0), bv (l.getD 4 0), bv (l.getD 5 0), bv (l.getD 6 0), bv (l.getD 7 0), bv (l.getD 8 0), bv (l.getD 9 0), bv (l.getD 10 0), bv (l.getD 11 0), bv (l.getD 12 0), bv (l.getD 13 0), bv (l.getD 14 0), bv (l.getD 15 0), bv (l.getD 16 0)] ++ s17).toArray [bv (l.getD 0 0), bv (l.getD 1 0), bv (l.getD 2 0), bv (l.getD 3 0), bv (l.getD 4 0), bv (l.getD 5 0), bv (l.getD 6 0), bv (l.getD 7 0), bv (l.getD 8 0), bv (l.getD 9 0), bv (l.getD 10 0), bv (l.getD 11 0), bv (l.getD 12 0), bv (l.getD 13 0), bv (l.getD 14 0), bv (l.getD 15 0), bv (l.getD 16 0)] (by kernel_rfl) (by kernel_rfl) (by kernel_rfl) rfl (by rw [← e17]; simp only [List.size_toArray, List.length_append, List.length_cons, List.length_nil]; omega) m17 3 g19 0 1 1 5 #[bv (l.getD 17 0)] [bv (l.getD 17 0)] (by kernel_rfl) (by kernel_rfl) (by kernel_rfl) rfl (by intro u hu; simp only [List.mem_cons, List.not_mem_nil, or_false] at hu; subst hu; rfl) (by decide) (fun q18 c18 s18 e18 m18 => ?_)
  refine Sy.step (by kernel_rfl) (.slice (some ⟨q18, 0, none⟩) 18 c18) (Quiet.pure (fun _ => by kernel_rfl)) ?_
  refine Sy.nil ?_
  refine Sy.in_ ?_
  refine Sy.then_ ?_
  refine Sy.region ?_
  refine Sy.step (by kernel_rfl) (.int .i64 17) (Quiet.pure (fun _ => by kernel_rfl)) ?_
  refine Sy.step (by kernel_rfl) (.int .i64 18) (Quiet.pure (fun _ => by kernel_rfl)) ?_
  refine Sy.step (by kernel_rfl) (.int .i64 18) (Quiet.pure (fun _ => by kernel_rfl)) ?_
  refine Sy.nil ?_
  refine Sy.again ?_
  refine Sy.tidyR (G := [(1, .pointer (some ⟨g0, 0, none⟩)), (2, .pointer (some ⟨g1, 0, none⟩)), (4, .slice (some ⟨q18, 0, none⟩) 18 c18), (5, .int .i64 18)]) (M := [(g0, 85, (l.map bv).toArray), (g1, 27, (pcs 0 0 false)), (q18, 5, ([bv (l.getD 0 0), bv (l.getD 1 0), bv (l.getD 2 0), bv (l.getD 3 0), bv (l.getD 4 0), bv (l.getD 5 0), bv (l.getD 6 0), bv (l.getD 7 0), bv (l.getD 8 0), bv (l.getD 9 0), bv (l.getD 10 0), bv (l.getD 11 0), bv (l.getD 12 0), bv (l.getD 13 0), bv (l.getD 14 0), bv (l.getD 15 0), bv (l.getD 16 0), bv (l.getD 17 0)] ++ s18).toArray)]) [true, true, true, false] (by kernel_rfl) (all_cons (by kernel_rfl) (all_cons (by kernel_rfl) (all_cons (by kernel_rfl) (all_cons (by kernel_rfl) all_nil)))) ?_
  refine Sy.round ?_
  refine Sy.seq ?_
  refine Sy.seq ?_
  refine Sy.region ?_
  refine Sy.step (by kernel_rfl) (.int .i64 18) (Quiet.pure (fun _ => by kernel_rfl)) ?_
  refine Sy.step (by kernel_rfl) (.bool true) (Quiet.pure (fun _ => by kernel_rfl)) ?_
  refine Sy.nil ?_
  refine Sy.then_ ?_
  refine Sy.cond_t (by kernel_rfl) (by kernel_rfl) ?_
  refine Sy.skip ?_
  refine Sy.then_ ?_
  refine Sy.seq ?_
  refine Sy.block ?_
  refine Sy.region ?_
  refine Sy.step (by kernel_rfl) (.slice (some ⟨q18, 0, none⟩) 18 c18) (Quiet.pure (fun _ => by kernel_rfl)) ?_
  refine Sy.step (by kernel_rfl) (.int .i64 18) (Quiet.pure (fun _ => by kernel_rfl)) ?_
  refine Sy.step (by kernel_rfl) (.pointer (some ⟨g0, 18, none⟩)) (Quiet.pure (fun _ => by kernel_rfl)) ?_
  refine Sy.step (by kernel_rfl) (bv (l.getD 18 0)) (Quiet.cell 0 g0 18 85 5 (l.map bv).toArray _ _ rfl (by kernel_rfl) (by kernel_rfl) Try.underlying5 rfl _ (key_at l hl 18 (by decide))) ?_
  refine Sy.make (by kernel_rfl) 5 #[bv (l.getD 18 0)] (fun g => .slice (some ⟨g, 0, none⟩) 1 1) (fun _ => by kernel_rfl) (fun g20 => ?_)
  refine Sy.append (by kernel_rfl) 41 5 _ _ Try.underlying41 info_u8 rfl rfl rfl rfl _ _ rfl 2 q18 18 c18 ([bv (l.getD 0 0), bv (l.getD 1 0), bv (l.getD 2 0), bv (l.getD 3 0), bv (l.getD 4 0), bv (l.getD 5 0), bv (l.getD 6 0), bv (l.getD 7 0), bv (l.getD 8 0), bv (l.getD 9 0), bv (l.getD 10 0), bv (l.getD 11 0), bv (l.getD 12 0), bv (l.getD 13 0), bv (l.getD 14 0), bv (l.getD 15 0), bv (l.getD 16 0), bv (l.getD 17 0)] ++ s18).toArray [bv (l.getD 0 0), bv (l.getD 1 0), bv (l.getD 2 0), bv (l.getD 3 0), bv (l.getD 4 0), bv (l.getD 5 0), bv (l.getD 6 0), bv (l.getD 7 0), bv (l.getD 8 0), bv (l.getD 9 0), bv (l.getD 10 0), bv (l.getD 11 0), bv (l.getD 12 0), bv (l.getD 13 0), bv (l.getD 14 0), bv (l.getD 15 0), bv (l.getD 16 0), bv (l.getD 17 0)] (by kernel_rfl) (by kernel_rfl) (by kernel_rfl) rfl (by rw [← e18]; simp only [List.size_toArray, List.length_append, List.length_cons, List.length_nil]; omega) m18 3 g20 0 1 1 5 #[bv (l.getD 18 0)] [bv (l.getD 18 0)] (by kernel_rfl) (by kernel_rfl) (by kernel_rfl) rfl (by intro u hu; simp only [List.mem_cons, List.not_mem_nil, or_false] at hu; subst hu; rfl) (by decide) (fun q19 c19 s19 e19 m19 => ?_)
  refine Sy.step (by kernel_rfl) (.slice (some ⟨q19, 0, none⟩) 19 c19) (Quiet.pure (fun _ => by kernel_rfl)) ?_
  refine Sy.nil ?_
  refine Sy.in_ ?_
  refine Sy.then_ ?_
  refine Sy.region ?_
  refine Sy.step (by kernel_rfl) (.int .i64 18) (Quiet.pure (fun _ => by kernel_rfl)) ?_
  refine Sy.step (by kernel_rfl) (.int .i64 19) (Quiet.pure (fun _ => by kernel_rfl)) ?_
  refine Sy.step (by kernel_rfl) (.int .i64 19) (Quiet.pure (fun _ => by kernel_rfl)) ?_
  refine Sy.nil ?_
  refine Sy.again ?_
  refine Sy.tidyR (G := [(1, .pointer (some ⟨g0, 0, none⟩)), (2, .pointer (some ⟨g1, 0, none⟩)), (4, .slice (some ⟨q19, 0, none⟩) 19 c19), (5, .int .i64 19)]) (M := [(g0, 85, (l.map bv).toArray), (g1, 27, (pcs 0 0 false)), (q19, 5, ([bv (l.getD 0 0), bv (l.getD 1 0), bv (l.getD 2 0), bv (l.getD 3 0), bv (l.getD 4 0), bv (l.getD 5 0), bv (l.getD 6 0), bv (l.getD 7 0), bv (l.getD 8 0), bv (l.getD 9 0), bv (l.getD 10 0), bv (l.getD 11 0), bv (l.getD 12 0), bv (l.getD 13 0), bv (l.getD 14 0), bv (l.getD 15 0), bv (l.getD 16 0), bv (l.getD 17 0), bv (l.getD 18 0)] ++ s19).toArray)]) [true, true, true, false] (by kernel_rfl) (all_cons (by kernel_rfl) (all_cons (by kernel_rfl) (all_cons (by kernel_rfl) (all_cons (by kernel_rfl) all_nil)))) ?_
  refine Sy.round ?_
  refine Sy.seq ?_
  refine Sy.seq ?_
  refine Sy.region ?_
  refine Sy.step (by kernel_rfl) (.int .i64 19) (Quiet.pure (fun _ => by kernel_rfl)) ?_
  refine Sy.step (by kernel_rfl) (.bool true) (Quiet.pure (fun _ => by kernel_rfl)) ?_
  refine Sy.nil ?_
  refine Sy.then_ ?_
  refine Sy.cond_t (by kernel_rfl) (by kernel_rfl) ?_
  refine Sy.skip ?_
  refine Sy.then_ ?_
  refine Sy.seq ?_
  refine Sy.block ?_
  refine Sy.region ?_
  refine Sy.step (by kernel_rfl) (.slice (some ⟨q19, 0, none⟩) 19 c19) (Quiet.pure (fun _ => by kernel_rfl)) ?_
  refine Sy.step (by kernel_rfl) (.int .i64 19) (Quiet.pure (fun _ => by kernel_rfl)) ?_
  refine Sy.step (by kernel_rfl) (.pointer (some ⟨g0, 19, none⟩)) (Quiet.pure (fun _ => by kernel_rfl)) ?_
  refine Sy.step (by kernel_rfl) (bv (l.getD 19 0)) (Quiet.cell 0 g0 19 85 5 (l.map bv).toArray _ _ rfl (by kernel_rfl) (by kernel_rfl) Try.underlying5 rfl _ (key_at l hl 19 (by decide))) ?_
  refine Sy.make (by kernel_rfl) 5 #[bv (l.getD 19 0)] (fun g => .slice (some ⟨g, 0, none⟩) 1 1) (fun _ => by kernel_rfl) (fun g21 => ?_)
  refine Sy.append (by kernel_rfl) 41 5 _ _ Try.underlying41 info_u8 rfl rfl rfl rfl _ _ rfl 2 q19 19 c19 ([bv (l.getD 0 0), bv (l.getD 1 0), bv (l.getD 2 0), bv (l.getD 3 0), bv (l.getD 4 0), bv (l.getD 5 0), bv (l.getD 6 0), bv (l.getD 7 0), bv (l.getD 8 0), bv (l.getD 9 0), bv (l.getD 10 0), bv (l.getD 11 0), bv (l.getD 12 0), bv (l.getD 13 0), bv (l.getD 14 0), bv (l.getD 15 0), bv (l.getD 16 0), bv (l.getD 17 0), bv (l.getD 18 0)] ++ s19).toArray [bv (l.getD 0 0), bv (l.getD 1 0), bv (l.getD 2 0), bv (l.getD 3 0), bv (l.getD 4 0), bv (l.getD 5 0), bv (l.getD 6 0), bv (l.getD 7 0), bv (l.getD 8 0), bv (l.getD 9 0), bv (l.getD 10 0), bv (l.getD 11 0), bv (l.getD 12 0), bv (l.getD 13 0), bv (l.getD 14 0), bv (l.getD 15 0), bv (l.getD 16 0), bv (l.getD 17 0), bv (l.getD 18 0)] (by kernel_rfl) (by kernel_rfl) (by kernel_rfl) rfl (by rw [← e19]; simp only [List.size_toArray, List.length_append, List.length_cons, List.length_nil]; omega) m19 3 g21 0 1 1 5 #[bv (l.getD 19 0)] [bv (l.getD 19 0)] (by kernel_rfl) (by kernel_rfl) (by kernel_rfl) rfl (by intro u hu; simp only [List.mem_cons, List.not_mem_nil, or_false] at hu; subst hu; rfl) (by decide) (fun q20 c20 s20 e20 m20 => ?_)
  refine Sy.step (by kernel_rfl) (.slice (some ⟨q20, 0, none⟩) 20 c20) (Quiet.pure (fun _ => by kernel_rfl)) ?_
  refine Sy.nil ?_
  refine Sy.in_ ?_
  refine Sy.then_ ?_
  refine Sy.region ?_
  refine Sy.step (by kernel_rfl) (.int .i64 19) (Quiet.pure (fun _ => by kernel_rfl)) ?_
  refine Sy.step (by kernel_rfl) (.int .i64 20) (Quiet.pure (fun _ => by kernel_rfl)) ?_
  refine Sy.step (by kernel_rfl) (.int .i64 20) (Quiet.pure (fun _ => by kernel_rfl)) ?_
  refine Sy.nil ?_
  refine Sy.again ?_
  refine Sy.tidyR (G := [(1, .pointer (some ⟨g0, 0, none⟩)), (2, .pointer (some ⟨g1, 0, none⟩)), (4, .slice (some ⟨q20, 0, none⟩) 20 c20), (5, .int .i64 20)]) (M := [(g0, 85, (l.map bv).toArray), (g1, 27, (pcs 0 0 false)), (q20, 5, ([bv (l.getD 0 0), bv (l.getD 1 0), bv (l.getD 2 0), bv (l.getD 3 0), bv (l.getD 4 0), bv (l.getD 5 0), bv (l.getD 6 0), bv (l.getD 7 0), bv (l.getD 8 0), bv (l.getD 9 0), bv (l.getD 10 0), bv (l.getD 11 0), bv (l.getD 12 0), bv (l.getD 13 0), bv (l.getD 14 0), bv (l.getD 15 0), bv (l.getD 16 0), bv (l.getD 17 0), bv (l.getD 18 0), bv (l.getD 19 0)] ++ s20).toArray)]) [true, true, true, false] (by kernel_rfl) (all_cons (by kernel_rfl) (all_cons (by kernel_rfl) (all_cons (by kernel_rfl) (all_cons (by kernel_rfl) all_nil)))) ?_
  refine Sy.round ?_
  refine Sy.seq ?_
  refine Sy.seq ?_
  refine Sy.region ?_
  refine Sy.step (by kernel_rfl) (.int .i64 20) (Quiet.pure (fun _ => by kernel_rfl)) ?_
  refine Sy.step (by kernel_rfl) (.bool true) (Quiet.pure (fun _ => by kernel_rfl)) ?_
  refine Sy.nil ?_
  refine Sy.then_ ?_
  refine Sy.cond_t (by kernel_rfl) (by kernel_rfl) ?_
  refine Sy.skip ?_
  refine Sy.then_ ?_
  refine Sy.seq ?_
  refine Sy.block ?_
  refine Sy.region ?_
  refine Sy.step (by kernel_rfl) (.slice (some ⟨q20, 0, none⟩) 20 c20) (Quiet.pure (fun _ => by kernel_rfl)) ?_
  refine Sy.step (by kernel_rfl) (.int .i64 20) (Quiet.pure (fun _ => by kernel_rfl)) ?_
  refine Sy.step (by kernel_rfl) (.pointer (some ⟨g0, 20, none⟩)) (Quiet.pure (fun _ => by kernel_rfl)) ?_
  refine Sy.step (by kernel_rfl) (bv (l.getD 20 0)) (Quiet.cell 0 g0 20 85 5 (l.map bv).toArray _ _ rfl (by kernel_rfl) (by kernel_rfl) Try.underlying5 rfl _ (key_at l hl 20 (by decide))) ?_
  refine Sy.make (by kernel_rfl) 5 #[bv (l.getD 20 0)] (fun g => .slice (some ⟨g, 0, none⟩) 1 1) (fun _ => by kernel_rfl) (fun g22 => ?_)
  refine Sy.append (by kernel_rfl) 41 5 _ _ Try.underlying41 info_u8 rfl rfl rfl rfl _ _ rfl 2 q20 20 c20 ([bv (l.getD 0 0), bv (l.getD 1 0), bv (l.getD 2 0), bv (l.getD 3 0), bv (l.getD 4 0), bv (l.getD 5 0), bv (l.getD 6 0), bv (l.getD 7 0), bv (l.getD 8 0), bv (l.getD 9 0), bv (l.getD 10 0), bv (l.getD 11 0), bv (l.getD 12 0), bv (l.getD 13 0), bv (l.getD 14 0), bv (l.getD 15 0), bv (l.getD 16 0), bv (l.getD 17 0), bv (l.getD 18 0), bv (l.getD 19 0)] ++ s20).toArray [bv (l.getD 0 0), bv (l.getD 1 0), bv (l.getD 2 0), bv (l.getD 3 0), bv (l.getD 4 0), bv (l.getD 5 0), bv (l.getD 6 0), bv (l.getD 7 0), bv (l.getD 8 0), bv (l.getD 9 0), bv (l.getD 10 0), bv (l.getD 11 0), bv (l.getD 12 0), bv (l.getD 13 0), bv (l.getD 14 0), bv (l.getD 15 0), bv (l.getD 16 0), bv (l.getD 17 0), bv (l.getD 18 0), bv (l.getD 19 0)] (by kernel_rfl) (by kernel_rfl) (by kernel_rfl) rfl (by rw [← e20]; simp only [List.size_toArray, List.length_append, List.length_cons, List.length_nil]; omega) m20 3 g22 0 1 1 5 #[bv (l.getD 20 0)] [bv (l.getD 20 0)] (by kernel_rfl) (by kernel_rfl) (by kernel_rfl) rfl (by intro u hu; simp only [List.mem_cons, List.not_mem_nil, or_false] at hu; subst hu; rfl) (by decide) (fun q21 c21 s21 e21 m21 => ?_)
  refine Sy.step (by kernel_rfl) (.slice (some ⟨q21, 0, none⟩) 21 c21) (Quiet.pure (fun _ => by kernel_rfl)) ?_
  refine Sy.nil ?_
  refine Sy.in_ ?_
  refine Sy.then_ ?_
  refine Sy.region ?_
  refine Sy.step (by kernel_rfl) (.int .i64 20) (Quiet.pure (fun _ => by kernel_rfl)) ?_
  refine Sy.step (by kernel_rfl) (.int .i64 21) (Quiet.pure (fun _ => by kernel_rfl)) ?_
  refine Sy.step (by kernel_rfl) (.int .i64 21) (Quiet.pure (fun _ => by kernel_rfl)) ?_
  refine Sy.nil ?_
  refine Sy.again ?_
  refine Sy.tidyR (G := [(1, .pointer (some ⟨g0, 0, none⟩)), (2, .pointer (some ⟨g1, 0, none⟩)), (4, .slice (some ⟨q21, 0, none⟩) 21 c21), (5, .int .i64 21)]) (M := [(g0, 85, (l.map bv).toArray), (g1, 27, (pcs 0 0 false)), (q21, 5, ([bv (l.getD 0 0), bv (l.getD 1 0), bv (l.getD 2 0), bv (l.getD 3 0), bv (l.getD 4 0), bv (l.getD 5 0), bv (l.getD 6 0), bv (l.getD 7 0), bv (l.getD 8 0), bv (l.getD 9 0), bv (l.getD 10 0), bv (l.getD 11 0), bv (l.getD 12 0), bv (l.getD 13 0), bv (l.getD 14 0), bv (l.getD 15 0), bv (l.getD 16 0), bv (l.getD 17 0), bv (l.getD 18 0), bv (l.getD 19 0), bv (l.getD 20 0)] ++ s21).toArray)]) [true, true, true, false] (by kernel_rfl) (all_cons (by kernel_rfl) (all_cons (by kernel_rfl) (all_cons (by kernel_rfl) (all_cons (by kernel_rfl) all_nil)))) ?_
  refine Sy.round ?_
  refine Sy.seq ?_
  refine Sy.seq ?_
  refine Sy.region ?_
  refine Sy.step (by kernel_rfl) (.int .i64 21) (Quiet.pure (fun _ => by kernel_rfl)) ?_
  refine Sy.step (by kernel_rfl) (.bool true) (Quiet.pure (fun _ => by kernel_rfl)) ?_
  refine Sy.nil ?_
  refine Sy.then_ ?_
  refine Sy.cond_t (by kernel_rfl) (by kernel_rfl) ?_
  refine Sy.skip ?_
  refine Sy.then_ ?_
  refine Sy.seq ?_
  refine Sy.block ?_
  refine Sy.region ?_
  refine Sy.step (by kernel_rfl) (.slice (some ⟨q21, 0, none⟩) 21 c21) (Quiet.pure (fun _ => by kernel_rfl)) ?_
  refine Sy.step (by kernel_rfl) (.int .i64 21) (Quiet.pure (fun _ => by kernel_rfl)) ?_
  refine Sy.step (by kernel_rfl) (.pointer (some ⟨g0, 21, none⟩)) (Quiet.pure (fun _ => by kernel_rfl)) ?_
  refine Sy.step (by kernel_rfl) (bv (l.getD 21 0)) (Quiet.cell 0 g0 21 85 5 (l.map bv).toArray _ _ rfl (by kernel_rfl) (by kernel_rfl) Try.underlying5 rfl _ (key_at l hl 21 (by decide))) ?_
  refine Sy.make (by kernel_rfl) 5 #[bv (l.getD 21 0)] (fun g => .slice (some ⟨g, 0, none⟩) 1 1) (fun _ => by kernel_rfl) (fun g23 => ?_)
  refine Sy.append (by kernel_rfl) 41 5 _ _ Try.underlying41 info_u8 rfl rfl rfl rfl _ _ rfl 2 q21 21 c21 ([bv (l.getD 0 0), bv (l.getD 1 0), bv (l.getD 2 0), bv (l.getD 3 0), bv (l.getD 4 0), bv (l.getD 5 0), bv (l.getD 6 0), bv (l.getD 7 0), bv (l.getD 8 0), bv (l.getD 9 0), bv (l.getD 10 0), bv (l.getD 11 0), bv (l.getD 12 0), bv (l.getD 13 0), bv (l.getD 14 0), bv (l.getD 15 0), bv (l.getD 16 0), bv (l.getD 17 0), bv (l.getD 18 0), bv (l.getD 19 0), bv (l.getD 20 0)] ++ s21).toArray [bv (l.getD 0 0), bv (l.getD 1 0), bv (l.getD 2 0), bv (l.getD 3 0), bv (l.getD 4 0), bv (l.getD 5 0), bv (l.getD 6 0), bv (l.getD 7 0), bv (l.getD 8 0), bv (l.getD 9 0), bv (l.getD 10 0), bv (l.getD 11 0), bv (l.getD 12 0), bv (l.getD 13 0), bv (l.getD 14 0), bv (l.getD 15 0), bv (l.getD 16 0), bv (l.getD 17 0), bv (l.getD 18 0), bv (l.getD 19 0), bv (l.getD 20 0)] (by kernel_rfl) (by kernel_rfl) (by kernel_rfl) rfl (by rw [← e21]; simp only [List.size_toArray, List.length_append, List.length_cons, List.length_nil]; omega) m21 3 g23 0 1 1 5 #[bv (l.getD 21 0)] [bv (l.getD 21 0)] (by kernel_rfl) (by kernel_rfl) (by kernel_rfl) rfl (by intro u hu; simp only [List.mem_cons, List.not_mem_nil, or_false] at hu; subst hu; rfl) (by decide) (fun q22 c22 s22 e22 m22 => ?_)
  refine Sy.step (by kernel_rfl) (.slice (some ⟨q22, 0, none⟩) 22 c22) (Quiet.pure (fun _ => by kernel_rfl)) ?_
  refine Sy.nil ?_
  refine Sy.in_ ?_
  refine Sy.then_ ?_
  refine Sy.region ?_
  refine Sy.step (by kernel_rfl) (.int .i64 21) (Quiet.pure (fun _ => by kernel_rfl)) ?_
  refine Sy.step (by kernel_rfl) (.int .i64 22) (Quiet.pure (fun _ => by kernel_rfl)) ?_
  refine Sy.step (by kernel_rfl) (.int .i64 22) (Quiet.pure (fun _ => by kernel_rfl)) ?_
  refine Sy.nil ?_
  refine Sy.again ?_
  refine Sy.tidyR (G := [(1, .pointer (some ⟨g0, 0, none⟩)), (2, .pointer (some ⟨g1, 0, none⟩)), (4, .slice (some ⟨q22, 0, none⟩) 22 c22), (5, .int .i64 22)]) (M := [(g0, 85, (l.map bv).toArray), (g1, 27, (pcs 0 0 false)), (q22, 5, ([bv (l.getD 0 0), bv (l.getD 1 0), bv (l.getD 2 0), bv (l.getD 3 0), bv (l.getD 4 0), bv (l.getD 5 0), bv (l.getD 6 0), bv (l.getD 7 0), bv (l.getD 8 0), bv (l.getD 9 0), bv (l.getD 10 0), bv (l.getD 11 0), bv (l.getD 12 0), bv (l.getD 13 0), bv (l.getD 14 0), bv (l.getD 15 0), bv (l.getD 16 0), bv (l.getD 17 0), bv (l.getD 18 0), bv (l.getD 19 0), bv (l.getD 20 0), bv (l.getD 21 0)] ++ s22).toArray)]) [true, true, true, false] (by kernel_rfl) (all_cons (by kernel_rfl) (all_cons (by kernel_rfl) (all_cons (by kernel_rfl) (all_cons (by kernel_rfl) all_nil)))) ?_
  refine Sy.round ?_
  refine Sy.seq ?_
  refine Sy.seq ?_
  refine Sy.region ?_
  refine Sy.step (by kernel_rfl) (.int .i64 22) (Quiet.pure (fun _ => by kernel_rfl)) ?_
  refine Sy.step (by kernel_rfl) (.bool true) (Quiet.pure (fun _ => by kernel_rfl)) ?_
  refine Sy.nil ?_
  refine Sy.then_ ?_
  refine Sy.cond_t (by kernel_rfl) (by kernel_rfl) ?_
  refine Sy.skip ?_
  refine Sy.then_ ?_
  refine Sy.seq ?_
  refine Sy.block ?_
  refine Sy.region ?_
  refine Sy.step (by kernel_rfl) (.slice (some ⟨q22, 0, none⟩) 22 c22) (Quiet.pure (fun _ => by kernel_rfl)) ?_
  refine Sy.step (by kernel_rfl) (.int .i64 22) (Quiet.pure (fun _ => by kernel_rfl)) ?_
  refine Sy.step (by kernel_rfl) (.pointer (some ⟨g0, 22, none⟩)) (Quiet.pure (fun _ => by kernel_rfl)) ?_
  refine Sy.step (by kernel_rfl) (bv (l.getD 22 0)) (Quiet.cell 0 g0 22 85 5 (l.map bv).toArray _ _ rfl (by kernel_rfl) (by kernel_rfl) Try.underlying5 rfl _ (key_at l hl 22 (by decide))) ?_
  refine Sy.make (by kernel_rfl) 5 #[bv (l.getD 22 0)] (fun g => .slice (some ⟨g, 0, none⟩) 1 1) (fun _ => by kernel_rfl) (fun g24 => ?_)
  refine Sy.append (by kernel_rfl) 41 5 _ _ Try.underlying41 info_u8 rfl rfl rfl rfl _ _ rfl 2 q22 22 c22 ([bv (l.getD 0 0), bv (l.getD 1 0), bv (l.getD 2 0), bv (l.getD 3 0), bv (l.getD 4 0), bv (l.getD 5 0), bv (l.getD 6 0), bv (l.getD 7 0), bv (l.getD 8 0), bv (l.getD 9 0), bv (l.getD 10 0), bv (l.getD 11 0), bv (l.getD 12 0), bv (l.getD 13 0), bv (l.getD 14 0), bv (l.getD 15 0), bv (l.getD 16 0), bv (l.getD 17 0), bv (l.getD 18 0), bv (l.getD 19 0), bv (l.getD 20 0), bv (l.getD 21 0)] ++ s22).toArray [bv (l.getD 0 0), bv (l.getD 1 0), bv (l.getD 2 0), bv (l.getD 3 0), bv (l.getD 4 0), bv (l.getD 5 0), bv (l.getD 6 0), bv (l.getD 7 0), bv (l.getD 8 0), bv (l.getD 9 0), bv (l.getD 10 0), bv (l.getD 11 0), bv (l.getD 12 0), bv (l.getD 13 0), bv (l.getD 14 0), bv (l.getD 15 0), bv (l.getD 16 0), bv (l.getD 17 0), bv (l.getD 18 0), bv (l.getD 19 0), bv (l.getD 20 0), bv (l.getD 21 0)] (by kernel_rfl) (by kernel_rfl) (by kernel_rfl) rfl (by rw [← e22]; simp only [List.size_toArray, List.length_append, List.length_cons, List.length_nil]; omega) m22 3 g24 0 1 1 5 #[bv (l.getD 22 0)] [bv (l.getD 22 0)] (by kernel_rfl) (by kernel_rfl) (by kernel_rfl) rfl (by intro u hu; simp only [List.mem_cons, List.not_mem_nil, or_false] at hu; subst hu; rfl) (by decide) (fun q23 c23 s23 e23 m23 => ?_)
  refine Sy.step (by kernel_rfl) (.slice (some ⟨q23, 0, none⟩) 23 c23) (Quiet.pure (fun _ => by kernel_rfl)) ?_
  refine Sy.nil ?_
  refine Sy.in_ ?_
  refine Sy.then_ ?_
  refine Sy.region ?_
  refine Sy.step (by kernel_rfl) (.int .i64 22) (Quiet.pure (fun _ => by kernel_rfl)) ?_
  refine Sy.step (by kernel_rfl) (.int .i64 23) (Quiet.pure (fun _ => by kernel_rfl)) ?_
  refine Sy.step (by kernel_rfl) (.int .i64 23) (Quiet.pure (fun _ => by kernel_rfl)) ?_
  refine Sy.nil ?_
  refine Sy.again ?_
  refine Sy.tidyR (G := [(1, .pointer (some ⟨g0, 0, none⟩)), (2, .pointer (some ⟨g1, 0, none⟩)), (4, .slice (some ⟨q23, 0, none⟩) 23 c23), (5, .int .i64 23)]) (M := [(g0, 85, (l.map bv).toArray), (g1, 27, (pcs 0 0 false)), (q23, 5, ([bv (l.getD 0 0), bv (l.getD 1 0), bv (l.getD 2 0), bv (l.getD 3 0), bv (l.getD 4 0), bv (l.getD 5 0), bv (l.getD 6 0), bv (l.getD 7 0), bv (l.getD 8 0), bv (l.getD 9 0), bv (l.getD 10 0), bv (l.getD 11 0), bv (l.getD 12 0), bv (l.getD 13 0), bv (l.getD 14 0), bv (l.getD 15 0), bv (l.getD 16 0), bv (l.getD 17 0), bv (l.getD 18 0), bv (l.getD 19 0), bv (l.getD 20 0), bv (l.getD 21 0), bv (l.getD 22 0)] ++ s23).toArray)]) [true, true, true, false] (by kernel_rfl) (all_cons (by kernel_rfl) (all_cons (by kernel_rfl) (all_cons (by kernel_rfl) (all_cons (by kernel_rfl) all_nil)))) ?_
  refine Sy.round ?_
  refine Sy.seq ?_
  refine Sy.seq ?_
  refine Sy.region ?_
  refine Sy.step (by kernel_rfl) (.int .i64 23) (Quiet.pure (fun _ => by kernel_rfl)) ?_
  refine Sy.step (by kernel_rfl) (.bool true) (Quiet.pure (fun _ => by kernel_rfl)) ?_
  refine Sy.nil ?_
  refine Sy.then_ ?_
  refine Sy.cond_t (by kernel_rfl) (by kernel_rfl) ?_
  refine Sy.skip ?_
  refine Sy.then_ ?_
  refine Sy.seq ?_
  refine Sy.block ?_
  refine Sy.region ?_
  refine Sy.step (by kernel_rfl) (.slice (some ⟨q23, 0, none⟩) 23 c23) (Quiet.pure (fun _ => by kernel_rfl)) ?_
  refine Sy.step (by kernel_rfl) (.int .i64 23) (Quiet.pure (fun _ => by kernel_rfl)) ?_
  refine Sy.step (by kernel_rfl) (.pointer (some ⟨g0, 23, none⟩)) (Quiet.pure (fun _ => by kernel_rfl)) ?_
  refine Sy.step (by kernel_rfl) (bv (l.getD 23 0)) (Quiet.cell 0 g0 23 85 5 (l.map bv).toArray _ _ rfl (by kernel_rfl) (by kernel_rfl) Try.underlying5 rfl _ (key_at l hl 23 (by decide))) ?_
  refine Sy.make (by kernel_rfl) 5 #[bv (l.getD 23 0)] (fun g => .slice (some ⟨g, 0, none⟩) 1 1) (fun _ => by kernel_rfl) (fun g25 => ?_)
  refine Sy.append (by kernel_rfl) 41 5 _ _ Try.underlying41 info_u8 rfl rfl rfl rfl _ _ rfl 2 q23 23 c23 ([bv (l.getD 0 0), bv (l.getD 1 0), bv (l.getD 2 0), bv (l.getD 3 0), bv (l.getD 4 0), bv (l.getD 5 0), bv (l.getD 6 0), bv (l.getD 7 0), bv (l.getD 8 0), bv (l.getD 9 0), bv (l.getD 10 0), bv (l.getD 11 0), bv (l.getD 12 0), bv (l.getD 13 0), bv (l.getD 14 0), bv (l.getD 15 0), bv (l.getD 16 0), bv (l.getD 17 0), bv (l.getD 18 0), bv (l.getD 19 0), bv (l.getD 20 0), bv (l.getD 21 0), bv (l.getD 22 0)] ++ s23).toArray [bv (l.getD 0 0), bv (l.getD 1 0), bv (l.getD 2 0), bv (l.getD 3 0), bv (l.getD 4 0), bv (l.getD 5 0), bv (l.getD 6 0), bv (l.getD 7 0), bv (l.getD 8 0), bv (l.getD 9 0), bv (l.getD 10 0), bv (l.getD 11 0), bv (l.getD 12 0), bv (l.getD 13 0), bv (l.getD 14 0), bv (l.getD 15 0), bv (l.getD 16 0), bv (l.getD 17 0), bv (l.getD 18 0), bv (l.getD 19 0), bv (l.getD 20 0), bv (l.getD 21 0), bv (l.getD 22 0)] (by kernel_rfl) (by kernel_rfl) (by kernel_rfl) rfl (by rw [← e23]; simp only [List.size_toArray, List.length_append, List.length_cons, List.length_nil]; omega) m23 3 g25 0 1 1 5 #[bv (l.getD 23 0)] [bv (l.getD 23 0)] (by kernel_rfl) (by kernel_rfl) (by kernel_rfl) rfl (by intro u hu; simp only [List.mem_cons, List.not_mem_nil, or_false] at hu; subst hu; rfl) (by decide) (fun q24 c24 s24 e24 m24 => ?_)
  refine Sy.step (by kernel_rfl) (.slice (some ⟨q24, 0, none⟩) 24 c24) (Quiet.pure (fun _ => by kernel_rfl)) ?_
  refine Sy.nil ?_
  refine Sy.in_ ?_
  refine Sy.then_ ?_
  refine Sy.region ?_
  refine Sy.step (by kernel_rfl) (.int .i64 23) (Quiet.pure (fun _ => by kernel_rfl)) ?_
  refine Sy.step (by kernel_rfl) (.int .i64 24) (Quiet.pure (fun _ => by kernel_rfl)) ?_
  refine Sy.step (by kernel_rfl) (.int .i64 24) (Quiet.pure (fun _ => by kernel_rfl)) ?_
  refine Sy.nil ?_
  refine Sy.again ?_
  refine Sy.tidyR (G := [(1, .pointer (some ⟨g0, 0, none⟩)), (2, .pointer (some ⟨g1, 0, none⟩)), (4, .slice (some ⟨q24, 0, none⟩) 24 c24), (5, .int .i64 24)]) (M := [(g0, 85, (l.map bv).toArray), (g1, 27, (pcs 0 0 false)), (q24, 5, ([bv (l.getD 0 0), bv (l.getD 1 0), bv (l.getD 2 0), bv (l.getD 3 0), bv (l.getD 4 0), bv (l.getD 5 0), bv (l.getD 6 0), bv (l.getD 7 0), bv (l.getD 8 0), bv (l.getD 9 0), bv (l.getD 10 0), bv (l.getD 11 0), bv (l.getD 12 0), bv (l.getD 13 0), bv (l.getD 14 0), bv (l.getD 15 0), bv (l.getD 16 0), bv (l.getD 17 0), bv (l.getD 18 0), bv (l.getD 19 0), bv (l.getD 20 0), bv (l.getD 21 0), bv (l.getD 22 0), bv (l.getD 23 0)] ++ s24).toArray)]) [true, true, true, false] (by kernel_rfl) (all_cons (by kernel_rfl) (all_cons (by kernel_rfl) (all_cons (by kernel_rfl) (all_cons (by kernel_rfl) all_nil)))) ?_
  refine Sy.round ?_
  refine Sy.seq ?_
  refine Sy.seq ?_
  refine Sy.region ?_
  refine Sy.step (by kernel_rfl) (.int .i64 24) (Quiet.pure (fun _ => by kernel_rfl)) ?_
  refine Sy.step (by kernel_rfl) (.bool true) (Quiet.pure (fun _ => by kernel_rfl)) ?_
  refine Sy.nil ?_
  refine Sy.then_ ?_
  refine Sy.cond_t (by kernel_rfl) (by kernel_rfl) ?_
  refine Sy.skip ?_
  refine Sy.then_ ?_
  refine Sy.seq ?_
  refine Sy.block ?_
  refine Sy.region ?_
  refine Sy.step (by kernel_rfl) (.slice (some ⟨q24, 0, none⟩) 24 c24) (Quiet.pure (fun _ => by kernel_rfl)) ?_
  refine Sy.step (by kernel_rfl) (.int .i64 24) (Quiet.pure (fun _ => by kernel_rfl)) ?_
  refine Sy.step (by kernel_rfl) (.pointer (some ⟨g0, 24, none⟩)) (Quiet.pure (fun _ => by kernel_rfl)) ?_
  refine Sy.step (by kernel_rfl) (bv (l.getD 24 0)) (Quiet.cell 0 g0 24 85 5 (l.map bv).toArray _ _ rfl (by kernel_rfl) (by kernel_rfl) Try.underlying5 rfl _ (key_at l hl 24 (by decide))) ?_
  refine Sy.make (by kernel_rfl) 5 #[bv (l.getD 24 0)] (fun g => .slice (some ⟨g, 0, none⟩) 1 1) (fun _ => by kernel_rfl) (fun g26 => ?_)
  refine Sy.append (by kernel_rfl) 41 5 _ _ Try.underlying41 info_u8 rfl rfl rfl rfl _ _ rfl 2 q24 24 c24 ([bv (l.getD 0 0), bv (l.getD 1 0), bv (l.getD 2 0), bv (l.getD 3 0), bv (l.getD 4 0), bv (l.getD 5 0), bv (l.getD 6 0), bv (l.getD 7 0), bv (l.getD 8 0), bv (l.getD 9 0), bv (l.getD 10 0), bv (l.getD 11 0), bv (l.getD 12 0), bv (l.getD 13 0), bv (l.getD 14 0), bv (l.getD 15 0), bv (l.getD 16 0), bv (l.getD 17 0), bv (l.getD 18 0), bv (l.getD 19 0), bv (l.getD 20 0), bv (l.getD 21 0), bv (l.getD 22 0), bv (l.getD 23 0)] ++ s24).toArray [bv (l.getD 0 0), bv (l.getD 1 0), bv (l.getD 2 0), bv (l.getD 3 0), bv (l.getD 4 0), bv (l.getD 5 0), bv (l.getD 6 0), bv (l.getD 7 0), bv (l.getD 8 0), bv (l.getD 9 0), bv (l.getD 10 0), bv (l.getD 11 0), bv (l.getD 12 0), bv (l.getD 13 0), bv (l.getD 14 0), bv (l.getD 15 0), bv (l.getD 16 0), bv (l.getD 17 0), bv (l.getD 18 0), bv (l.getD 19 0), bv (l.getD 20 0), bv (l.getD 21 0), bv (l.getD 22 0), bv (l.getD 23 0)] (by kernel_rfl) (by kernel_rfl) (by kernel_rfl) rfl (by rw [← e24]; simp only [List.size_toArray, List.length_append, List.length_cons, List.length_nil]; omega) m24 3 g26 0 1 1 5 #[bv (l.getD 24 0)] [bv (l.getD 24 0)] (by kernel_rfl) (by kernel_rfl) (by kernel_rfl) rfl (by intro u hu; simp only [List.mem_cons, List.not_mem_nil, or_false] at hu; subst hu; rfl) (by decide) (fun q25 c25 s25 e25 m25 => ?_)
  refine Sy.step (by kernel_rfl) (.slice (some ⟨q25, 0, none⟩) 25 c25) (Quiet.pure (fun _ => by kernel_rfl)) ?_
  refine Sy.nil ?_
  refine Sy.in_ ?_
  refine Sy.then_ ?_
  refine Sy.region ?_
  refine Sy.step (by kernel_rfl) (.int .i64 24) (Quiet.pure (fun _ => by kernel_rfl)) ?_
  refine Sy.step (by kernel_rfl) (.int .i64 25) (Quiet.pure (fun _ => by kernel_rfl)) ?_
  refine Sy.step (by kernel_rfl) (.int .i64 25) (Quiet.pure (fun _ => by kernel_rfl)) ?_
  refine Sy.nil ?_
  refine Sy.again ?_
  refine Sy.tidyR (G := [(1, .pointer (some ⟨g0, 0, none⟩)), (2, .pointer (some ⟨g1, 0, none⟩)), (4, .slice (some ⟨q25, 0, none⟩) 25 c25), (5, .int .i64 25)]) (M := [(g0, 85, (l.map bv).toArray), (g1, 27, (pcs 0 0 false)), (q25, 5, ([bv (l.getD 0 0), bv (l.getD 1 0), bv (l.getD 2 0), bv (l.getD 3 0), bv (l.getD 4 0), bv (l.getD 5 0), bv (l.getD 6 0), bv (l.getD 7 0), bv (l.getD 8 0), bv (l.getD 9 0), bv (l.getD 10 0), bv (l.getD 11 0), bv (l.getD 12 0), bv (l.getD 13 0), bv (l.getD 14 0), bv (l.getD 15 0), bv (l.getD 16 0), bv (l.getD 17 0), bv (l.getD 18 0), bv (l.getD 19 0), bv (l.getD 20 0), bv (l.getD 21 0), bv (l.getD 22 0), bv (l.getD 23 0), bv (l.getD 24 0)] ++ s25).toArray)]) [true, true, true, false] (by kernel_rfl) (all_cons (by kernel_rfl) (all_cons (by kernel_rfl) (all_cons (by kernel_rfl) (all_cons (by kernel_rfl) all_nil)))) ?_
  refine Sy.round ?_
  refine Sy.seq ?_
  refine Sy.seq ?_
  refine Sy.region ?_
  refine Sy.step (by kernel_rfl) (.int .i64 25) (Quiet.pure (fun _ => by kernel_rfl)) ?_
  refine Sy.step (by kernel_rfl) (.bool true) (Quiet.pure (fun _ => by kernel_rfl)) ?_
  refine Sy.nil ?_
  refine Sy.then_ ?_
  refine Sy.cond_t (by kernel_rfl) (by kernel_rfl) ?_
  refine Sy.skip ?_
  refine Sy.then_ ?_
  refine Sy.seq ?_
  refine Sy.block ?_
  refine Sy.region ?_
  refine Sy.step (by kernel_rfl) (.slice (some ⟨q25, 0, none⟩) 25 c25) (Quiet.pure (fun _ => by kernel_rfl)) ?_
  refine Sy.step (by kernel_rfl) (.int .i64 25) (Quiet.pure (fun _ => by kernel_rfl)) ?_
  refine Sy.step (by kernel_rfl) (.pointer (some ⟨g0, 25, none⟩)) (Quiet.pure (fun _ => by kernel_rfl)) ?_
  refine Sy.step (by kernel_rfl) (bv (l.getD 25 0)) (Quiet.cell 0 g0 25 85 5 (l.map bv).toArray _ _ rfl (by kernel_rfl) (by kernel_rfl) Try.underlying5 rfl _ (key_at l hl 25 (by decide))) ?_
  refine Sy.make (by kernel_rfl) 5 #[bv (l.getD 25 0)] (fun g => .slice (some ⟨g, 0, none⟩) 1 1) (fun _ => by kernel_rfl) (fun g27 => ?_)
  refine Sy.append (by kernel_rfl) 41 5 _ _ Try.underlying41 info_u8 rfl rfl rfl rfl _ _ rfl 2 q25 25 c25 ([bv (l.getD 0 0), bv (l.getD 1 0), bv (l.getD 2 0), bv (l.getD 3 0), bv (l.getD 4 0), bv (l.getD 5 0), bv (l.getD 6 0), bv (l.getD 7 0), bv (l.getD 8 0), bv (l.getD 9 0), bv (l.getD 10 0), bv (l.getD 11 0), bv (l.getD 12 0), bv (l.getD 13 0), bv (l.getD 14 0), bv (l.getD 15 0), bv (l.getD 16 0), bv (l.getD 17 0), bv (l.getD 18 0), bv (l.getD 19 0), bv (l.getD 20 0), bv (l.getD 21 0), bv (l.getD 22 0), bv (l.getD 23 0), bv (l.getD 24 0)] ++ s25).toArray [bv (l.getD 0 0), bv (l.getD 1 0), bv (l.getD 2 0), bv (l.getD 3 0), bv (l.getD 4 0), bv (l.getD 5 0), bv (l.getD 6 0), bv (l.getD 7 0), bv (l.getD 8 0), bv (l.getD 9 0), bv (l.getD 10 0), bv (l.getD 11 0), bv (l.getD 12 0), bv (l.getD 13 0), bv (l.getD 14 0), bv (l.getD 15 0), bv (l.getD 16 0), bv (l.getD 17 0), bv (l.getD 18 0), bv (l.getD 19 0), bv (l.getD 20 0), bv (l.getD 21 0), bv (l.getD 22 0), bv (l.getD 23 0), bv (l.getD 24 0)] (by kernel_rfl) (by kernel_rfl) (by kernel_rfl) rfl (by rw [← e25]; simp only [List.size_toArray, List.length_append, List.length_cons, List.length_nil]; omega) m25 3 g27 0 1 1 5 #[bv (l.getD 25 0)] [bv (l.getD 25 0)] (by kernel_rfl) (by kernel_rfl) (by kernel_rfl) rfl (by intro u hu; simp only [List.mem_cons, List.not_mem_nil, or_false] at hu; subst hu; rfl) (by decide) (fun q26 c26 s26 e26 m26 => ?_)
  refine Sy.step (by kernel_rfl) (.slice (some ⟨q26, 0, none⟩) 26 c26) (Quiet.pure (fun _ => by kernel_rfl)) ?_
  refine Sy.nil ?_
  refine Sy.in_ ?_
  refine Sy.then_ ?_
  refine Sy.region ?_
  refine Sy.step (by kernel_rfl) (.int .i64 25) (Quiet.pure (fun _ => by kernel_rfl)) ?_
  refine Sy.step (by kernel_rfl) (.int .i64 26) (Quiet.pure (fun _ => by kernel_rfl)) ?_
  refine Sy.step (by kernel_rfl) (.int .i64 26) (Quiet.pure (fun _ => by kernel_rfl)) ?_
  refine Sy.nil ?_
  refine Sy.again ?_
  refine Sy.tidyR (G := [(1, .pointer (some ⟨g0, 0, none⟩)), (2, .pointer (some ⟨g1, 0, none⟩)), (4, .slice (some ⟨q26, 0, none⟩) 26 c26), (5, .int .i64 26)]) (M := [(g0, 85, (l.map bv).toArray), (g1, 27, (pcs 0 0 false)), (q26, 5, ([bv (l.getD 0 0), bv (l.getD 1 0), bv (l.getD 2 0), bv (l.getD 3 0), bv (l.getD 4 0), bv (l.getD 5 0), bv (l.getD 6 0), bv (l.getD 7 0), bv (l.getD 8 0), bv (l.getD 9 0), bv (l.getD 10 0), bv (l.getD 11 0), bv (l.getD 12 0), bv (l.getD 13 0), bv (l.getD 14 0), bv (l.getD 15 0), bv (l.getD 16 0), bv (l.getD 17 0), bv (l.getD 18 0), bv (l.getD 19 0), bv (l.getD 20 0), bv (l.getD 21 0), bv (l.getD 22 0), bv (l.getD 23 0), bv (l.getD 24 0), bv (l.getD 25 0)] ++ s26).toArray)]) [true, true, true, false] (by kernel_rfl) (all_cons (by kernel_rfl) (all_cons (by kernel_rfl) (all_cons (by kernel_rfl) (all_cons (by kernel_rfl) all_nil)))) ?_
  refine Sy.round ?_
  refine Sy.seq ?_
  refine Sy.seq ?_
  refine Sy.region ?_
  refine Sy.step (by kernel_rfl) (.int .i64 26) (Quiet.pure (fun _ => by kernel_rfl)) ?_
  refine Sy.step (by kernel_rfl) (.bool true) (Quiet.pure (fun _ => by kernel_rfl)) ?_
  refine Sy.nil ?_
  refine Sy.then_ ?_
  refine Sy.cond_t (by kernel_rfl) (by kernel_rfl) ?_
  refine Sy.skip ?_
  refine Sy.then_ ?_
  refine Sy.seq ?_
  refine Sy.block ?_
  refine Sy.region ?_
  refine Sy.step (by kernel_rfl) (.slice (some ⟨q26, 0, none⟩) 26 c26) (Quiet.pure (fun _ => by kernel_rfl)) ?_
  refine Sy.step (by kernel_rfl) (.int .i64 26) (Quiet.pure (fun _ => by kernel_rfl)) ?_
  refine Sy.step (by kernel_rfl) (.pointer (some ⟨g0, 26, none⟩)) (Quiet.pure (fun _ => by kernel_rfl)) ?_
  refine Sy.step (by kernel_rfl) (bv (l.getD 26 0)) (Quiet.cell 0 g0 26 85 5 (l.map bv).toArray _ _ rfl (by kernel_rfl) (by kernel_rfl) Try.underlying5 rfl _ (key_at l hl 26 (by decide))) ?_
  refine Sy.make (by kernel_rfl) 5 #[bv (l.getD 26 0)] (fun g => .slice (some ⟨g, 0, none⟩) 1 1) (fun _ => by kernel_rfl) (fun g28 => ?_)
  refine Sy.append (by kernel_rfl) 41 5 _ _ Try.underlying41 info_u8 rfl rfl rfl rfl _ _ rfl 2 q26 26 c26 ([bv (l.getD 0 0), bv (l.getD 1 0), bv (l.getD 2 0), bv (l.getD 3 0), bv (l.getD 4 0), bv (l.getD 5 0), bv (l.getD 6 0), bv (l.getD 7 0), bv (l.getD 8 0), bv (l.getD 9 0), bv (l.getD 10 0), bv (l.getD 11 0), bv (l.getD 12 0), bv (l.getD 13 0), bv (l.getD 14 0), bv (l.getD 15 0), bv (l.getD 16 0), bv (l.getD 17 0), bv (l.getD 18 0), bv (l.getD 19 0), bv (l.getD 20 0), bv (l.getD 21 0), bv (l.getD 22 0), bv (l.getD 23 0), bv (l.getD 24 0), bv (l.getD 25 0)] ++ s26).toArray [bv (l.getD 0 0), bv (l.getD 1 0), bv (l.getD 2 0), bv (l.getD 3 0), bv (l.getD 4 0), bv (l.getD 5 0), bv (l.getD 6 0), bv (l.getD 7 0), bv (l.getD 8 0), bv (l.getD 9 0), bv (l.getD 10 0), bv (l.getD 11 0), bv (l.getD 12 0), bv (l.getD 13 0), bv (l.getD 14 0), bv (l.getD 15 0), bv (l.getD 16 0), bv (l.getD 17 0), bv (l.getD 18 0), bv (l.getD 19 0), bv (l.getD 20 0), bv (l.getD 21 0), bv (l.getD 22 0), bv (l.getD 23 0), bv (l.getD 24 0), bv (l.getD 25 0)] (by kernel_rfl) (by kernel_rfl) (by kernel_rfl) rfl (by rw [← e26]; simp only [List.size_toArray, List.length_append, List.length_cons, List.length_nil]; omega) m26 3 g28 0 1 1 5 #[bv (l.getD 26 0)] [bv (l.getD 26 0)] (by kernel_rfl) (by kernel_rfl) (by kernel_rfl) rfl (by intro u hu; simp only [List.mem_cons, List.not_mem_nil, or_false] at hu; subst hu; rfl) (by decide) (fun q27 c27 s27 e27 m27 => ?_)
  refine Sy.step (by kernel_rfl) (.slice (some ⟨q27, 0, none⟩) 27 c27) (Quiet.pure (fun _ => by kernel_rfl)) ?_
  refine Sy.nil ?_
  refine Sy.in_ ?_
  refine Sy.then_ ?_
  refine Sy.region ?_
  refine Sy.step (by kernel_rfl) (.int .i64 26) (Quiet.pure (fun _ => by kernel_rfl)) ?_
  refine Sy.step (by kernel_rfl) (.int .i64 27) (Quiet.pure (fun _ => by kernel_rfl)) ?_
  refine Sy.step (by kernel_rfl) (.int .i64 27) (Quiet.pure (fun _ => by kernel_rfl)) ?_
  refine Sy.nil ?_
  refine Sy.again ?_
  refine Sy.tidyR (G := [(1, .pointer (some ⟨g0, 0, none⟩)), (2, .pointer (some ⟨g1, 0, none⟩)), (4, .slice (some ⟨q27, 0, none⟩) 27 c27), (5, .int .i64 27)]) (M := [(g0, 85, (l.map bv).toArray), (g1, 27, (pcs 0 0 false)), (q27, 5, ([bv (l.getD 0 0), bv (l.getD 1 0), bv (l.getD 2 0), bv (l.getD 3 0), bv (l.getD 4 0), bv (l.getD 5 0), bv (l.getD 6 0), bv (l.getD 7 0), bv (l.getD 8 0), bv (l.getD 9 0), bv (l.getD 10 0), bv (l.getD 11 0), bv (l.getD 12 0), bv (l.getD 13 0), bv (l.getD 14 0), bv (l.getD 15 0), bv (l.getD 16 0), bv (l.getD 17 0), bv (l.getD 18 0), bv (l.getD 19 0), bv (l.getD 20 0), bv (l.getD 21 0), bv (l.getD 22 0), bv (l.getD 23 0), bv (l.getD 24 0), bv (l.getD 25 0), bv (l.getD 26 0)] ++ s27).toArray)]) [true, true, true, false] (by kernel_rfl) (all_cons (by kernel_rfl) (all_cons (by kernel_rfl) (all_cons (by kernel_rfl) (all_cons (by kernel_rfl) all_nil)))) ?_
  refine Sy.round ?_
  refine Sy.seq ?_
  refine Sy.seq ?_
  refine Sy.region ?_
  refine Sy.step (by kernel_rfl) (.int .i64 27) (Quiet.pure (fun _ => by kernel_rfl)) ?_
  refine Sy.step (by kernel_rfl) (.bool true) (Quiet.pure (fun _ => by kernel_rfl)) ?_
  refine Sy.nil ?_
  refine Sy.then_ ?_
  refine Sy.cond_t (by kernel_rfl) (by kernel_rfl) ?_
  refine Sy.skip ?_
  refine Sy.then_ ?_
  refine Sy.seq ?_
  refine Sy.block ?_
  refine Sy.region ?_
  refine Sy.step (by kernel_rfl) (.slice (some ⟨q27, 0, none⟩) 27 c27) (Quiet.pure (fun _ => by kernel_rfl)) ?_
  refine Sy.step (by kernel_rfl) (.int .i64 27) (Quiet.pure (fun _ => by kernel_rfl)) ?_
  refine Sy.step (by kernel_rfl) (.pointer (some ⟨g0, 27, none⟩)) (Quiet.pure (fun _ => by kernel_rfl)) ?_
  refine Sy.step (by kernel_rfl) (bv (l.getD 27 0)) (Quiet.cell 0 g0 27 85 5 (l.map bv).toArray _ _ rfl (by kernel_rfl) (by kernel_rfl) Try.underlying5 rfl _ (key_at l hl 27 (by decide))) ?_
  refine Sy.make (by kernel_rfl) 5 #[bv (l.getD 27 0)] (fun g => .slice (some ⟨g, 0, none⟩) 1 1) (fun _ => by kernel_rfl) (fun g29 => ?_)
  refine Sy.append (by kernel_rfl) 41 5 _ _ Try.underlying41 info_u8 rfl rfl rfl rfl _ _ rfl 2 q27 27 c27 ([bv (l.getD 0 0), bv (l.getD 1 0), bv (l.getD 2 0), bv (l.getD 3 0), bv (l.getD 4 0), bv (l.getD 5 0), bv (l.getD 6 0), bv (l.getD 7 0), bv (l.getD 8 0), bv (l.getD 9 0), bv (l.getD 10 0), bv (l.getD 11 0), bv (l.getD 12 0), bv (l.getD 13 0), bv (l.getD 14 0), bv (l.getD 15 0), bv (l.getD 16 0), bv (l.getD 17 0), bv (l.getD 18 0), bv (l.getD 19 0), bv (l.getD 20 0), bv (l.getD 21 0), bv (l.getD 22 0), bv (l.getD 23 0), bv (l.getD 24 0), bv (l.getD 25 0), bv (l.getD 26 0)] ++ s27).toArray [bv (l.getD 0 0), bv (l.getD 1 0), bv (l.getD 2 0), bv (l.getD 3 0), bv (l.getD 4 0), bv (l.getD 5 0), bv (l.getD 6 0), bv (l.getD 7 0), bv (l.getD 8 0), bv (l.getD 9 0), bv (l.getD 10 0), bv (l.getD 11 0), bv (l.getD 12 0), bv (l.getD 13 0), bv (l.getD 14 0), bv (l.getD 15 0), bv (l.getD 16 0), bv (l.getD 17 0), bv (l.getD 18 0), bv (l.getD 19 0), bv (l.getD 20 0), bv (l.getD 21 0), bv (l.getD 22 0), bv (l.getD 23 0), bv (l.getD 24 0), bv (l.getD 25 0), bv (l.getD 26 0)] (by kernel_rfl) (by kernel_rfl) (by kernel_rfl) rfl (by rw [← e27]; simp only [List.size_toArray, List.length_append, List.length_cons, List.length_nil]; omega) m27 3 g29 0 1 1 5 #[bv (l.getD 27 0)] [bv (l.getD 27 0)] (by kernel_rfl) (by kernel_rfl) (by kernel_rfl) rfl (by intro u hu; simp only [List.mem_cons, List.not_mem_nil, or_false] at hu; subst hu; rfl) (by decide) (fun q28 c28 s28 e28 m28 => ?_)
  refine Sy.step (by kernel_rfl) (.slice (some ⟨q28, 0, none⟩) 28 c28) (Quiet.pure (fun _ => by kernel_rfl)) ?_
  refine Sy.nil ?_
  refine Sy.in_ ?_
  refine Sy.then_ ?_
  refine Sy.region ?_
  refine Sy.step (by kernel_rfl) (.int .i64 27) (Quiet.pure (fun _ => by kernel_rfl)) ?_
  refine Sy.step (by kernel_rfl) (.int .i64 28) (Quiet.pure (fun _ => by kernel_rfl)) ?_
  refine Sy.step (by kernel_rfl) (.int .i64 28) (Quiet.pure (fun _ => by kernel_rfl)) ?_
  refine Sy.nil ?_
  refine Sy.again ?_
  refine Sy.tidyR (G := [(1, .pointer (some ⟨g0, 0, none⟩)), (2, .pointer (some ⟨g1, 0, none⟩)), (4, .slice (some ⟨q28, 0, none⟩) 28 c28), (5, .int .i64 28)]) (M := [(g0, 85, (l.map bv).toArray), (g1, 27, (pcs 0 0 false)), (q28, 5, ([bv (l.getD 0 0), bv (l.getD 1 0), bv (l.getD 2 0), bv (l.getD 3 0), bv (l.getD 4 0), bv (l.getD 5 0), bv (l.getD 6 0), bv (l.getD 7 0), bv (l.getD 8 0), bv (l.getD 9 0), bv (l.getD 10 0), bv (l.getD 11 0), bv (l.getD 12 0), bv (l.getD 13 0), bv (l.getD 14 0), bv (l.getD 15 0), bv (l.getD 16 0), bv (l.getD 17 0), bv (l.getD 18 0), bv (l.getD 19 0), bv (l.getD 20 0), bv (l.getD 21 0), bv (l.getD 22 0), bv (l.getD 23 0), bv (l.getD 24 0), bv (l.getD 25 0), bv (l.getD 26 0), bv (l.getD 27 0)] ++ s28).toArray)]) [true, true, true, false] (by kernel_rfl) (all_cons (by kernel_rfl) (all_cons (by kernel_rfl) (all_cons (by kernel_rfl) (all_cons (by kernel_rfl) all_nil)))) ?_
  refine Sy.round ?_
  refine Sy.seq ?_
  refine Sy.seq ?_
  refine Sy.region ?_
  refine Sy.step (by kernel_rfl) (.int .i64 28) (Quiet.pure (fun _ => by kernel_rfl)) ?_
  refine Sy.step (by kernel_rfl) (.bool true) (Quiet.pure (fun _ => by kernel_rfl)) ?_
  refine Sy.nil ?_
  refine Sy.then_ ?_
  refine Sy.cond_t (by kernel_rfl) (by kernel_rfl) ?_
  refine Sy.skip ?_
  refine Sy.then_ ?_
  refine Sy.seq ?_
  refine Sy.block ?_
  refine Sy.region ?_
  refine Sy.step (by kernel_rfl) (.slice (some ⟨q28, 0, none⟩) 28 c28) (Quiet.pure (fun _ => by kernel_rfl)) ?_
  refine Sy.step (by kernel_rfl) (.int .i64 28) (Quiet.pure (fun _ => by kernel_rfl)) ?_
  refine Sy.step (by kernel_rfl) (.pointer (some ⟨g0, 28, none⟩)) (Quiet.pure (fun _ => by kernel_rfl)) ?_
  refine Sy.step (by kernel_rfl) (bv (l.getD 28 0)) (Quiet.cell 0 g0 28 85 5 (l.map bv).toArray _ _ rfl (by kernel_rfl) (by kernel_rfl) Try.underlying5 rfl _ (key_at l hl 28 (by decide))) ?_
  refine Sy.make (by kernel_rfl) 5 #[bv (l.getD 28 0)] (fun g => .slice (some ⟨g, 0, none⟩) 1 1) (fun _ => by kernel_rfl) (fun g30 => ?_)
  refine Sy.append (by kernel_rfl) 41 5 _ _ Try.underlying41 info_u8 rfl rfl rfl rfl _ _ rfl 2 q28 28 c28 ([bv (l.getD 0 0), bv (l.getD 1 0), bv (l.getD 2 0), bv (l.getD 3 0), bv (l.getD 4 0), bv (l.getD 5 0), bv (l.getD 6 0), bv (l.getD 7 0), bv (l.getD 8 0), bv (l.getD 9 0), bv (l.getD 10 0), bv (l.getD 11 0), bv (l.getD 12 0), bv (l.getD 13 0), bv (l.getD 14 0), bv (l.getD 15 0), bv (l.getD 16 0), bv (l.getD 17 0), bv (l.getD 18 0), bv (l.getD 19 0), bv (l.getD 20 0), bv (l.getD 21 0), bv (l.getD 22 0), bv (l.getD 23 0), bv (l.getD 24 0), bv (l.getD 25 0), bv (l.getD 26 0), bv (l.getD 27 0)] ++ s28).toArray [bv (l.getD 0 0), bv (l.getD 1 0), bv (l.getD 2 0), bv (l.getD 3 0), bv (l.getD 4 0), bv (l.getD 5 0), bv (l.getD 6 0), bv (l.getD 7 0), bv (l.getD 8 0), bv (l.getD 9 0), bv (l.getD 10 0), bv (l.getD 11 0), bv (l.getD 12 0), bv (l.getD 13 0), bv (l.getD 14 0), bv (l.getD 15 0), bv (l.getD 16 0), bv (l.getD 17 0), bv (l.getD 18 0), bv (l.getD 19 0), bv (l.getD 20 0), bv (l.getD 21 0), bv (l.getD 22 0), bv (l.getD 23 0), bv (l.getD 24 0), bv (l.getD 25 0), bv (l.getD 26 0), bv (l.getD 27 0)] (by kernel_rfl) (by kernel_rfl) (by kernel_rfl) rfl (by rw [← e28]; simp only [List.size_toArray, List.length_append, List.length_cons, List.length_nil]; omega) m28 3 g30 0 1 1 5 #[bv (l.getD 28 0)] [bv (l.getD 28 0)] (by kernel_rfl) (by kernel_rfl) (by kernel_rfl) rfl (by intro u hu; simp only [List.mem_cons, List.not_mem_nil, or_false] at hu; subst hu; rfl) (by decide) (fun q29 c29 s29 e29 m29 => ?_)
  refine Sy.step (by kernel_rfl) (.slice (some ⟨q29, 0, none⟩) 29 c29) (Quiet.pure (fun _ => by kernel_rfl)) ?_
  refine Sy.nil ?_
  refine Sy.in_ ?_
  refine Sy.then_ ?_
  refine Sy.region ?_
  refine Sy.step (by kernel_rfl) (.int .i64 28) (Quiet.pure (fun _ => by kernel_rfl)) ?_
  refine Sy.step (by kernel_rfl) (.int .i64 29) (Quiet.pure (fun _ => by kernel_rfl)) ?_
  refine Sy.step (by kernel_rfl) (.int .i64 29) (Quiet.pure (fun _ => by kernel_rfl)) ?_
  refine Sy.nil ?_
  refine Sy.again ?_
  refine Sy.tidyR (G := [(1, .pointer (some ⟨g0, 0, none⟩)), (2, .pointer (some ⟨g1, 0, none⟩)), (4, .slice (some ⟨q29, 0, none⟩) 29 c29), (5, .int .i64 29)]) (M := [(g0, 85, (l.map bv).toArray), (g1, 27, (pcs 0 0 false)), (q29, 5, ([bv (l.getD 0 0), bv (l.getD 1 0), bv (l.getD 2 0), bv (l.getD 3 0), bv (l.getD 4 0), bv (l.getD 5 0), bv (l.getD 6 0), bv (l.getD 7 0), bv (l.getD 8 0), bv (l.getD 9 0), bv (l.getD 10 0), bv (l.getD 11 0), bv (l.getD 12 0), bv (l.getD 13 0), bv (l.getD 14 0), bv (l.getD 15 0), bv (l.getD 16 0), bv (l.getD 17 0), bv (l.getD 18 0), bv (l.getD 19 0), bv (l.getD 20 0), bv (l.getD 21 0), bv (l.getD 22 0), bv (l.getD 23 0), bv (l.getD 24 0), bv (l.getD 25 0), bv (l.getD 26 0), bv (l.getD 27 0), bv (l.getD 28 0)] ++ s29).toArray)]) [true, true, true, false] (by kernel_rfl) (all_cons (by kernel_rfl) (all_cons (by kernel_rfl) (all_cons (by kernel_rfl) (all_cons (by kernel_rfl) all_nil)))) ?_
  refine Sy.round ?_
  refine Sy.seq ?_
  refine Sy.seq ?_
  refine Sy.region ?_
  refine Sy.step (by kernel_rfl) (.int .i64 29) (Quiet.pure (fun _ => by kernel_rfl)) ?_
  refine Sy.step (by kernel_rfl) (.bool true) (Quiet.pure (fun _ => by kernel_rfl)) ?_
  refine Sy.nil ?_
  refine Sy.then_ ?_
  refine Sy.cond_t (by kernel_rfl) (by kernel_rfl) ?_
  refine Sy.skip ?_
  refine Sy.then_ ?_
  refine Sy.seq ?_
  refine Sy.block ?_
  refine Sy.region ?_
  refine Sy.step (by kernel_rfl) (.slice (some ⟨q29, 0, none⟩) 29 c29) (Quiet.pure (fun _ => by kernel_rfl)) ?_
  refine Sy.step (by kernel_rfl) (.int .i64 29) (Quiet.pure (fun _ => by kernel_rfl)) ?_
  refine Sy.step (by kernel_rfl) (.pointer (some ⟨g0, 29, none⟩)) (Quiet.pure (fun _ => by kernel_rfl)) ?_
  refine Sy.step (by kernel_rfl) (bv (l.getD 29 0)) (Quiet.cell 0 g0 29 85 5 (l.map bv).toArray _ _ rfl (by kernel_rfl) (by kernel_rfl) Try.underlying5 rfl _ (key_at l hl 29 (by decide))) ?_
  refine Sy.make (by kernel_rfl) 5 #[bv (l.getD 29 0)] (fun g => .slice (some ⟨g, 0, none⟩) 1 1) (fun _ => by kernel_rfl) (fun g31 => ?_)
  refine Sy.append (by kernel_rfl) 41 5 _ _ Try.underlying41 info_u8 rfl rfl rfl rfl _ _ rfl 2 q29 29 c29 ([bv (l.getD 0 0), bv (l.getD 1 0), bv (l.getD 2 0), bv (l.getD 3 0), bv (l.getD 4 0), bv (l.getD 5 0), bv (l.getD 6 0), bv (l.getD 7 0), bv (l.getD 8 0), bv (l.getD 9 0), bv (l.getD 10 0), bv (l.getD 11 0), bv (l.getD 12 0), bv (l.getD 13 0), bv (l.getD 14 0), bv (l.getD 15 0), bv (l.getD 16 0), bv (l.getD 17 0), bv (l.getD 18 0), bv (l.getD 19 0), bv (l.getD 20 0), bv (l.getD 21 0), bv (l.getD 22 0), bv (l.getD 23 0), bv (l.getD 24 0), bv (l.getD 25 0), bv (l.getD 26 0), bv (l.getD 27 0), bv (l.getD 28 0)] ++ s29).toArray [bv (l.getD 0 0), bv (l.getD 1 0), bv (l.getD 2 0), bv (l.getD 3 0), bv (l.getD 4 0), bv (l.getD 5 0), bv (l.getD 6 0), bv (l.getD 7 0), bv (l.getD 8 0), bv (l.getD 9 0), bv (l.getD 10 0), bv (l.getD 11 0), bv (l.getD 12 0), bv (l.getD 13 0), bv (l.getD 14 0), bv (l.getD 15 0), bv (l.getD 16 0), bv (l.getD 17 0), bv (l.getD 18 0), bv (l.getD 19 0), bv (l.getD 20 0), bv (l.getD 21 0), bv (l.getD 22 0), bv (l.getD 23 0), bv (l.getD 24 0), bv (l.getD 25 0), bv (l.getD 26 0), bv (l.getD 27 0), bv (l.getD 28 0)] (by kernel_rfl) (by kernel_rfl) (by kernel_rfl) rfl (by rw [← e29]; simp only [List.size_toArray, List.length_append, List.length_cons, List.length_nil]; omega) m29 3 g31 0 1 1 5 #[bv (l.getD 29 0)] [bv (l.getD 29 0)] (by kernel_rfl) (by kernel_rfl) (by kernel_rfl) rfl (by intro u hu; simp only [List.mem_cons, List.not_mem_nil, or_false] at hu; subst hu; rfl) (by decide) (fun q30 c30 s30 e30 m30 => ?_)
  refine Sy.step (by kernel_rfl) (.slice (some ⟨q30, 0, none⟩) 30 c30) (Quiet.pure (fun _ => by kernel_rfl)) ?_
  refine Sy.nil ?_
  refine Sy.in_ ?_
  refine Sy.then_ ?_
  refine Sy.region ?_
  refine Sy.step (by kernel_rfl) (.int .i64 29) (Quiet.pure (fun _ => by kernel_rfl)) ?_
  refine Sy.step (by kernel_rfl) (.int .i64 30) (Quiet.pure (fun _ => by kernel_rfl)) ?_
  refine Sy.step (by kernel_rfl) (.int .i64 30) (Quiet.pure (fun _ => by kernel_rfl)) ?_
  refine Sy.nil ?_
  refine Sy.again ?_
  refine Sy.tidyR (G := [(1, .pointer (some ⟨g0, 0, none⟩)), (2, .pointer (some ⟨g1, 0, none⟩)), (4, .slice (some ⟨q30, 0, none⟩) 30 c30), (5, .int .i64 30)]) (M := [(g0, 85, (l.map bv).toArray), (g1, 27, (pcs 0 0 false)), (q30, 5, ([bv (l.getD 0 0), bv (l.getD 1 0), bv (l.getD 2 0), bv (l.getD 3 0), bv (l.getD 4 0), bv (l.getD 5 0), bv (l.getD 6 0), bv (l.getD 7 0), bv (l.getD 8 0), bv (l.getD 9 0), bv (l.getD 10 0), bv (l.getD 11 0), bv (l.getD 12 0), bv (l.getD 13 0), bv (l.getD 14 0), bv (l.getD 15 0), bv (l.getD 16 0), bv (l.getD 17 0), bv (l.getD 18 0), bv (l.getD 19 0), bv (l.getD 20 0), bv (l.getD 21 0), bv (l.getD 22 0), bv (l.getD 23 0), bv (l.getD 24 0), bv (l.getD 25 0), bv (l.getD 26 0), bv (l.getD 27 0), bv (l.getD 28 0), bv (l.getD 29 0)] ++ s30).toArray)]) [true, true, true, false] (by kernel_rfl) (all_cons (by kernel_rfl) (all_cons (by kernel_rfl) (all_cons (by kernel_rfl) (all_cons (by kernel_rfl) all_nil)))) ?_
  refine Sy.round ?_
  refine Sy.seq ?_
  refine Sy.seq ?_
  refine Sy.region ?_
  refine Sy.step (by kernel_rfl) (.int .i64 30) (Quiet.pure (fun _ => by kernel_rfl)) ?_
  refine Sy.step (by kernel_rfl) (.bool true) (Quiet.pure (fun _ => by kernel_rfl)) ?_
  refine Sy.nil ?_
  refine Sy.then_ ?_
  refine Sy.cond_t (by kernel_rfl) (by kernel_rfl) ?_
  refine Sy.skip ?_
  refine Sy.then_ ?_
  refine Sy.seq ?_
  refine Sy.block ?_
  refine Sy.region ?_
  refine Sy.step (by kernel_rfl) (.slice (some ⟨q30, 0, none⟩) 30 c30) (Quiet.pure (fun _ => by kernel_rfl)) ?_
  refine Sy.step (by kernel_rfl) (.int .i64 30) (Quiet.pure (fun _ => by kernel_rfl)) ?_
  refine Sy.step (by kernel_rfl) (.pointer (some ⟨g0, 30, none⟩)) (Quiet.pure (fun _ => by kernel_rfl)) ?_
  refine Sy.step (by kernel_rfl) (bv (l.getD 30 0)) (Quiet.cell 0 g0 30 85 5 (l.map bv).toArray _ _ rfl (by kernel_rfl) (by kernel_rfl) Try.underlying5 rfl _ (key_at l hl 30 (by decide))) ?_
  refine Sy.make (by kernel_rfl) 5 #[bv (l.getD 30 0)] (fun g => .slice (some ⟨g, 0, none⟩) 1 1) (fun _ => by kernel_rfl) (fun g32 => ?_)
  refine Sy.append (by kernel_rfl) 41 5 _ _ Try.underlying41 info_u8 rfl rfl rfl rfl _ _ rfl 2 q30 30 c30 ([bv (l.getD 0 0), bv (l.getD 1 0), bv (l.getD 2 0), bv (l.getD 3 0), bv (l.getD 4 0), bv (l.getD 5 0), bv (l.getD 6 0), bv (l.getD 7 0), bv (l.getD 8 0), bv (l.getD 9 0), bv (l.getD 10 0), bv (l.getD 11 0), bv (l.getD 12 0), bv (l.getD 13 0), bv (l.getD 14 0), bv (l.getD 15 0), bv (l.getD 16 0), bv (l.getD 17 0), bv (l.getD 18 0), bv (l.getD 19 0), bv (l.getD 20 0), bv (l.getD 21 0), bv (l.getD 22 0), bv (l.getD 23 0), bv (l.getD 24 0), bv (l.getD 25 0), bv (l.getD 26 0), bv (l.getD 27 0), bv (l.getD 28 0), bv (l.getD 29 0)] ++ s30).toArray [bv (l.getD 0 0), bv (l.getD 1 0), bv (l.getD 2 0), bv (l.getD 3 0), bv (l.getD 4 0), bv (l.getD 5 0), bv (l.getD 6 0), bv (l.getD 7 0), bv (l.getD 8 0), bv (l.getD 9 0), bv (l.getD 10 0), bv (l.getD 11 0), bv (l.getD 12 0), bv (l.getD 13 0), bv (l.getD 14 0), bv (l.getD 15 0), bv (l.getD 16 0), bv (l.getD 17 0), bv (l.getD 18 0), bv (l.getD 19 0), bv (l.getD 20 0), bv (l.getD 21 0), bv (l.getD 22 0), bv (l.getD 23 0), bv (l.getD 24 0), bv (l.getD 25 0), bv (l.getD 26 0), bv (l.getD 27 0), bv (l.getD 28 0), bv (l.getD 29 0)] (by kernel_rfl) (by kernel_rfl) (by kernel_rfl) rfl (by rw [← e30]; simp only [List.size_toArray, List.length_append, List.length_cons, List.length_nil]; omega) m30 3 g32 0 1 1 5 #[bv (l.getD 30 0)] [bv (l.getD 30 0)] (by kernel_rfl) (by kernel_rfl) (by kernel_rfl) rfl (by intro u hu; simp only [List.mem_cons, List.not_mem_nil, or_false] at hu; subst hu; rfl) (by decide) (fun q31 c31 s31 e31 m31 => ?_)
  refine Sy.step (by kernel_rfl) (.slice (some ⟨q31, 0, none⟩) 31 c31) (Quiet.pure (fun _ => by kernel_rfl)) ?_
  refine Sy.nil ?_
  refine Sy.in_ ?_
  refine Sy.then_ ?_
  refine Sy.region ?_
  refine Sy.step (by kernel_rfl) (.int .i64 30) (Quiet.pure (fun _ => by kernel_rfl)) ?_
  refine Sy.step (by kernel_rfl) (.int .i64 31) (Quiet.pure (fun _ => by kernel_rfl)) ?_
  refine Sy.step (by kernel_rfl) (.int .i64 31) (Quiet.pure (fun _ => by kernel_rfl)) ?_
  refine Sy.nil ?_
  refine Sy.again ?_
  refine Sy.tidyR (G := [(1, .pointer (some ⟨g0, 0, none⟩)), (2, .pointer (some ⟨g1, 0, none⟩)), (4, .slice (some ⟨q31, 0, none⟩) 31 c31), (5, .int .i64 31)]) (M := [(g0, 85, (l.map bv).toArray), (g1, 27, (pcs 0 0 false)), (q31, 5, ([bv (l.getD 0 0), bv (l.getD 1 0), bv (l.getD 2 0), bv (l.getD 3 0), bv (l.getD 4 0), bv (l.getD 5 0), bv (l.getD 6 0), bv (l.getD 7 0), bv (l.getD 8 0), bv (l.getD 9 0), bv (l.getD 10 0), bv (l.getD 11 0), bv (l.getD 12 0), bv (l.getD 13 0), bv (l.getD 14 0), bv (l.getD 15 0), bv (l.getD 16 0), bv (l.getD 17 0), bv (l.getD 18 0), bv (l.getD 19 0), bv (l.getD 20 0), bv (l.getD 21 0), bv (l.getD 22 0), bv (l.getD 23 0), bv (l.getD 24 0), bv (l.getD 25 0), bv (l.getD 26 0), bv (l.getD 27 0), bv (l.getD 28 0), bv (l.getD 29 0), bv (l.getD 30 0)] ++ s31).toArray)]) [true, true, true, false] (by kernel_rfl) (all_cons (by kernel_rfl) (all_cons (by kernel_rfl) (all_cons (by kernel_rfl) (all_cons (by kernel_rfl) all_nil)))) ?_
  refine Sy.round ?_
  refine Sy.seq ?_
  refine Sy.seq ?_
  refine Sy.region ?_
  refine Sy.step (by kernel_rfl) (.int .i64 31) (Quiet.pure (fun _ => by kernel_rfl)) ?_
  refine Sy.step (by kernel_rfl) (.bool true) (Quiet.pure (fun _ => by kernel_rfl)) ?_
  refine Sy.nil ?_
  refine Sy.then_ ?_
  refine Sy.cond_t (by kernel_rfl) (by kernel_rfl) ?_
  refine Sy.skip ?_
  refine Sy.then_ ?_
  refine Sy.seq ?_
  refine Sy.block ?_
  refine Sy.region ?_
  refine Sy.step (by kernel_rfl) (.slice (some ⟨q31, 0, none⟩) 31 c31) (Quiet.pure (fun _ => by kernel_rfl)) ?_
  refine Sy.step (by kernel_rfl) (.int .i64 31) (Quiet.pure (fun _ => by kernel_rfl)) ?_
  refine Sy.step (by kernel_rfl) (.pointer (some ⟨g0, 31, none⟩)) (Quiet.pure (fun _ => by kernel_rfl)) ?_
  refine Sy.step (by kernel_rfl) (bv (l.getD 31 0)) (Quiet.cell 0 g0 31 85 5 (l.map bv).toArray _ _ rfl (by kernel_rfl) (by kernel_rfl) Try.underlying5 rfl _ (key_at l hl 31 (by decide))) ?_
  refine Sy.make (by kernel_rfl) 5 #[bv (l.getD 31 0)] (fun g => .slice (some ⟨g, 0, none⟩) 1 1) (fun _ => by kernel_rfl) (fun g33 => ?_)
  refine Sy.append (by kernel_rfl) 41 5 _ _ Try.underlying41 info_u8 rfl rfl rfl rfl _ _ rfl 2 q31 31 c31 ([bv (l.getD 0 0), bv (l.getD 1 0), bv (l.getD 2 0), bv (l.getD 3 0), bv (l.getD 4 0), bv (l.getD 5 0), bv (l.getD 6 0), bv (l.getD 7 0), bv (l.getD 8 0), bv (l.getD 9 0), bv (l.getD 10 0), bv (l.getD 11 0), bv (l.getD 12 0), bv (l.getD 13 0), bv (l.getD 14 0), bv (l.getD 15 0), bv (l.getD 16 0), bv (l.getD 17 0), bv (l.getD 18 0), bv (l.getD 19 0), bv (l.getD 20 0), bv (l.getD 21 0), bv (l.getD 22 0), bv (l.getD 23 0), bv (l.getD 24 0), bv (l.getD 25 0), bv (l.getD 26 0), bv (l.getD 27 0), bv (l.getD 28 0), bv (l.getD 29 0), bv (l.getD 30 0)] ++ s31).toArray [bv (l.getD 0 0), bv (l.getD 1 0), bv (l.getD 2 0), bv (l.getD 3 0), bv (l.getD 4 0), bv (l.getD 5 0), bv (l.getD 6 0), bv (l.getD 7 0), bv (l.getD 8 0), bv (l.getD 9 0), bv (l.getD 10 0), bv (l.getD 11 0), bv (l.getD 12 0), bv (l.getD 13 0), bv (l.getD 14 0), bv (l.getD 15 0), bv (l.getD 16 0), bv (l.getD 17 0), bv (l.getD 18 0), bv (l.getD 19 0), bv (l.getD 20 0), bv (l.getD 21 0), bv (l.getD 22 0), bv (l.getD 23 0), bv (l.getD 24 0), bv (l.getD 25 0), bv (l.getD 26 0), bv (l.getD 27 0), bv (l.getD 28 0), bv (l.getD 29 0), bv (l.getD 30 0)] (by kernel_rfl) (by kernel_rfl) (by kernel_rfl) rfl (by rw [← e31]; simp only [List.size_toArray, List.length_append, List.length_cons, List.length_nil]; omega) m31 3 g33 0 1 1 5 #[bv (l.getD 31 0)] [bv (l.getD 31 0)] (by kernel_rfl) (by kernel_rfl) (by kernel_rfl) rfl (by intro u hu; simp only [List.mem_cons, List.not_mem_nil, or_false] at hu; subst hu; rfl) (by decide) (fun q32 c32 s32 e32 m32 => ?_)
  refine Sy.step (by kernel_rfl) (.slice (some ⟨q32, 0, none⟩) 32 c32) (Quiet.pure (fun _ => by kernel_rfl)) ?_
  refine Sy.nil ?_
  refine Sy.in_ ?_
  refine Sy.then_ ?_
  refine Sy.region ?_
  refine Sy.step (by kernel_rfl) (.int .i64 31) (Quiet.pure (fun _ => by kernel_rfl)) ?_
  refine Sy.step (by kernel_rfl) (.int .i64 32) (Quiet.pure (fun _ => by kernel_rfl)) ?_
  refine Sy.step (by kernel_rfl) (.int .i64 32) (Quiet.pure (fun _ => by kernel_rfl)) ?_
  refine Sy.nil ?_
  refine Sy.again ?_
  refine Sy.tidyR (G := [(1, .pointer (some ⟨g0, 0, none⟩)), (2, .pointer (some ⟨g1, 0, none⟩)), (4, .slice (some ⟨q32, 0, none⟩) 32 c32), (5, .int .i64 32)]) (M := [(g0, 85, (l.map bv).toArray), (g1, 27, (pcs 0 0 false)), (q32, 5, ([bv (l.getD 0 0), bv (l.getD 1 0), bv (l.getD 2 0), bv (l.getD 3 0), bv (l.getD 4 0), bv (l.getD 5 0), bv (l.getD 6 0), bv (l.getD 7 0), bv (l.getD 8 0), bv (l.getD 9 0), bv (l.getD 10 0), bv (l.getD 11 0), bv (l.getD 12 0), bv (l.getD 13 0), bv (l.getD 14 0), bv (l.getD 15 0), bv (l.getD 16 0), bv (l.getD 17 0), bv (l.getD 18 0), bv (l.getD 19 0), bv (l.getD 20 0), bv (l.getD 21 0), bv (l.getD 22 0), bv (l.getD 23 0), bv (l.getD 24 0), bv (l.getD 25 0), bv (l.getD 26 0), bv (l.getD 27 0), bv (l.getD 28 0), bv (l.getD 29 0), bv (l.getD 30 0), bv (l.getD 31 0)] ++ s32).toArray)]) [true, true, true, false] (by kernel_rfl) (all_cons (by kernel_rfl) (all_cons (by kernel_rfl) (all_cons (by kernel_rfl) (all_cons (by kernel_rfl) all_nil)))) ?_
  refine Sy.round ?_
  refine Sy.seq ?_
  refine Sy.seq ?_
  refine Sy.region ?_
  refine Sy.step (by kernel_rfl) (.int .i64 32) (Quiet.pure (fun _ => by kernel_rfl)) ?_
  refine Sy.step (by kernel_rfl) (.bool false) (Quiet.pure (fun _ => by kernel_rfl)) ?_
  refine Sy.nil ?_
  refine Sy.then_ ?_
  refine Sy.cond_f (by kernel_rfl) (by kernel_rfl) ?_
  refine Sy.exit ?_
  refine Sy.then_exit ?_
  refine Sy.then_exit ?_
  refine Sy.in_exit ?_
  refine Sy.then_ ?_
  refine Sy.seq ?_
  refine Sy.region ?_
  refine Sy.step (by kernel_rfl) (.slice (some ⟨q32, 0, none⟩) 32 c32) (Quiet.pure (fun _ => by kernel_rfl)) ?_
  refine Sy.step (by kernel_rfl) (fv (valB l)) (Quiet.callS 87 #[.slice (some ⟨q32, 0, none⟩) 32 c32] (fun _ => by kernel_rfl) (fun w hw => numberR_any w q32 c32 l hl (hw.get (i := 2) rfl).lt (fun j u hj => by rw [(hw.get (i := 2) (t := 5) (cs := ([bv (l.getD 0 0), bv (l.getD 1 0), bv (l.getD 2 0), bv (l.getD 3 0), bv (l.getD 4 0), bv (l.getD 5 0), bv (l.getD 6 0), bv (l.getD 7 0), bv (l.getD 8 0), bv (l.getD 9 0), bv (l.getD 10 0), bv (l.getD 11 0), bv (l.getD 12 0), bv (l.getD 13 0), bv (l.getD 14 0), bv (l.getD 15 0), bv (l.getD 16 0), bv (l.getD 17 0), bv (l.getD 18 0), bv (l.getD 19 0), bv (l.getD 20 0), bv (l.getD 21 0), bv (l.getD 22 0), bv (l.getD 23 0), bv (l.getD 24 0), bv (l.getD 25 0), bv (l.getD 26 0), bv (l.getD 27 0), bv (l.getD 28 0), bv (l.getD 29 0), bv (l.getD 30 0), bv (l.getD 31 0)] ++ s32).toArray) rfl).cell]; exact own_cells l hl _ j u hj) (by omega) (by simpa [maxLen] using m32))) ?_
  refine Sy.make (by kernel_rfl) 56 (fcs 0) ptr (fun _ => by kernel_rfl) (fun g34 => ?_)
  refine Sy.write (by kernel_rfl) 3 g34 56 (fcs 0) (fcs (valB l)) (by kernel_rfl) (Writes.store 0 56 (fcs (valB l)) _ _ rfl (by kernel_rfl) (by kernel_rfl) (by kernel_rfl) (Nat.le_of_ble_eq_true (by kernel_rfl)) (by kernel_rfl) (by kernel_rfl)) ?_
  refine Sy.nil ?_
  refine Sy.then_ ?_
  refine Sy.seq ?_
  refine Sy.region ?_
  refine Sy.step (by kernel_rfl) (fv (valB l)) (Quiet.load 3 g34 0 4 56 56 (fcs (valB l)) _ _ rfl (by kernel_rfl) (by kernel_rfl) Try.underlying56 rfl (by kernel_rfl) _ (by kernel_rfl) (Nat.le_of_ble_eq_true (by kernel_rfl))) ?_
  obtain ⟨z1, hz1⟩ : ∃ z : Nat, z = cubeN (valB l) := ⟨_, rfl⟩
  have lz1 : z1 < K4 := by rw [hz1]; exact cubeN_lt _
  refine Sy.step (by kernel_rfl) (fv z1) (Quiet.call 89 #[fv (valB l)] (fun _ => by kernel_rfl) (fun w => by rw [hz1]; exact cubeR_n w (valB l) (by first | assumption | exact lt4 _ | decide +kernel))) ?_
  obtain ⟨r1, hr1⟩ : ∃ z : Nat, z = (sqrtS z1).1 := ⟨_, rfl⟩
  obtain ⟨k1, hk1⟩ : ∃ z : Bool, z = (sqrtS z1).2 := ⟨_, rfl⟩
  have lr1 : r1 < K4 := by rw [hr1]; exact sqrt_lt _
  refine Sy.step (by kernel_rfl) (.tuple #[fv r1, .bool k1]) (Quiet.call 88 #[fv z1] (fun _ => by kernel_rfl) (fun w => by rw [hr1, hk1, ← sqrt_is]; exact sqrtR_any w z1 (by first | assumption | exact lt4 _ | decide +kernel))) ?_
  refine Sy.step (by kernel_rfl) (.tuple #[fv r1, .bool k1]) (Quiet.pure (fun _ => by kernel_rfl)) ?_
  refine Sy.step (by kernel_rfl) (fv r1) (Quiet.pure (fun _ => by kernel_rfl)) ?_
  refine Sy.step (by kernel_rfl) (.bool k1) (Quiet.pure (fun _ => by kernel_rfl)) ?_
  refine Sy.make (by kernel_rfl) 56 (fcs 0) ptr (fun _ => by kernel_rfl) (fun g35 => ?_)
  refine Sy.write (by kernel_rfl) 4 g35 56 (fcs 0) (fcs r1) (by kernel_rfl) (Writes.store 0 56 (fcs r1) _ _ rfl (by kernel_rfl) (by kernel_rfl) (by kernel_rfl) (Nat.le_of_ble_eq_true (by kernel_rfl)) (by kernel_rfl) (by kernel_rfl)) ?_
  refine Sy.step (by kernel_rfl) (.bool k1) (Quiet.pure (fun _ => by kernel_rfl)) ?_
  refine Sy.nil ?_
  refine Sy.then_ ?_
  refine Sy.seq ?_
  refine Sy.regionD (fun j => false) (by kernel_rfl) ?_
  refine Sy.stepD 0 rfl (by kernel_rfl) (fun _ _ _ _ h => h) (by kernel_rfl) (.agg modcs) (Quiet.call 36 #[] (fun _ => by kernel_rfl) (refP_any)) ?_
  refine Sy.stepD 1 rfl (by kernel_rfl) (fun _ _ _ _ h => h) (by kernel_rfl) (fv (valB l)) (Quiet.load 3 g34 0 4 56 56 (fcs (valB l)) _ _ rfl (by kernel_rfl) (by kernel_rfl) Try.underlying56 rfl (by kernel_rfl) _ (by kernel_rfl) (Nat.le_of_ble_eq_true (by kernel_rfl))) ?_
  obtain ⟨b1, hb1⟩ : ∃ z : Bool, z = decide ((valB l) < pM) := ⟨_, rfl⟩
  refine Sy.stepD 2 rfl (by kernel_rfl) (fun _ _ _ _ h => h) (by kernel_rfl) (.bool b1) (Quiet.call 90 #[.agg modcs, fv (valB l)] (fun _ => by kernel_rfl) (fun w => by rw [hb1]; exact rightR_any w (valB l) (by first | assumption | exact lt4 _ | decide +kernel))) ?_
  refine Sy.stepD 3 rfl (by kernel_rfl) (fun _ _ _ _ h => h) (by kernel_rfl) (.bool b1) (Quiet.pure (fun _ => by kernel_rfl)) ?_
  refine Sy.doneD (by kernel_rfl) ?_
  refine Sy.then_ ?_
  refine Sy.seq ?_
  refine Sy.seq ?_
  refine Sy.region ?_
  refine Sy.step (by kernel_rfl) (.bool k1) (Quiet.pure (fun _ => by kernel_rfl)) ?_
  cases k1
  · refine Sy.step (by kernel_rfl) (.bool true) (Quiet.pure (fun _ => by kernel_rfl)) ?_
    refine Sy.step (by kernel_rfl) (.bool true) (Quiet.pure (fun _ => by kernel_rfl)) ?_
    refine Sy.pass (by kernel_rfl) (by kernel_rfl) ?_
    refine Sy.pass (by kernel_rfl) (by kernel_rfl) ?_
    refine Sy.step (by kernel_rfl) (.bool true) (Quiet.pure (fun _ => by kernel_rfl)) ?_
    refine Sy.nil ?_
    refine Sy.then_ ?_
    refine Sy.cond_t (by kernel_rfl) (by kernel_rfl) ?_
    refine Sy.seq ?_
    refine Sy.region ?_
    refine Sy.step (by kernel_rfl) (pv 0 0 true) (Quiet.call 34 #[] (fun _ => by kernel_rfl) (zeroR_c)) ?_
    refine Sy.write (by kernel_rfl) 1 g1 27 (pcs 0 0 false) (pcs 0 0 true) (by kernel_rfl) (Writes.store 0 27 (pcs 0 0 true) _ _ rfl (by kernel_rfl) (by kernel_rfl) (by kernel_rfl) (Nat.le_of_ble_eq_true (by kernel_rfl)) (by kernel_rfl) (by kernel_rfl)) ?_
    refine Sy.step (by kernel_rfl) (.bool false) (Quiet.pure (fun _ => by kernel_rfl)) ?_
    refine Sy.nil ?_
    refine Sy.then_ ?_
    refine Sy.ret ?_
    refine Sy.then_ret ?_
    rw [show (.tuple #[ptv (liftP l), .bool (liftB l)] : Value) = .tuple #[pv 0 0 true, .bool false] from by
      have hb : liftB l = false := by unfold liftB; rw [← hz1, ← hk1]; simp
      rw [hb, lift_no hb]; rfl]
    exact Sy.ret2 (v := pv 0 0 true) (u := .bool false) rfl (.inl (Res.cell (ty' := 27) g1 1 (pcs 0 0 true) _ (by kernel_rfl) (by kernel_rfl) Try.underlying27 rfl (by kernel_rfl) (by kernel_rfl))) (.inl (show _ = _ by kernel_rfl))
  · refine Sy.step (by kernel_rfl) (.bool false) (Quiet.pure (fun _ => by kernel_rfl)) ?_
    refine Sy.step (by kernel_rfl) (.bool false) (Quiet.pure (fun _ => by kernel_rfl)) ?_
    refine Sy.step (by kernel_rfl) (.bool b1) (Quiet.pure (fun _ => by kernel_rfl)) ?_
    cases b1
    · refine Sy.step (by kernel_rfl) (.bool true) (Quiet.pure (fun _ => by kernel_rfl)) ?_
      refine Sy.step (by kernel_rfl) (.bool true) (Quiet.pure (fun _ => by kernel_rfl)) ?_
      refine Sy.nil ?_
      refine Sy.then_ ?_
      refine Sy.cond_t (by kernel_rfl) (by kernel_rfl) ?_
      refine Sy.seq ?_
      refine Sy.region ?_
      refine Sy.step (by kernel_rfl) (pv 0 0 true) (Quiet.call 34 #[] (fun _ => by kernel_rfl) (zeroR_c)) ?_
      refine Sy.write (by kernel_rfl) 1 g1 27 (pcs 0 0 false) (pcs 0 0 true) (by kernel_rfl) (Writes.store 0 27 (pcs 0 0 true) _ _ rfl (by kernel_rfl) (by kernel_rfl) (by kernel_rfl) (Nat.le_of_ble_eq_true (by kernel_rfl)) (by kernel_rfl) (by kernel_rfl)) ?_
      refine Sy.step (by kernel_rfl) (.bool false) (Quiet.pure (fun _ => by kernel_rfl)) ?_
      refine Sy.nil ?_
      refine Sy.then_ ?_
      refine Sy.ret ?_
      refine Sy.then_ret ?_
      rw [show (.tuple #[ptv (liftP l), .bool (liftB l)] : Value) = .tuple #[pv 0 0 true, .bool false] from by
        have hb : liftB l = false := by unfold liftB; rw [← hb1]; simp
        rw [hb, lift_no hb]; rfl]
      exact Sy.ret2 (v := pv 0 0 true) (u := .bool false) rfl (.inl (Res.cell (ty' := 27) g1 1 (pcs 0 0 true) _ (by kernel_rfl) (by kernel_rfl) Try.underlying27 rfl (by kernel_rfl) (by kernel_rfl))) (.inl (show _ = _ by kernel_rfl))
    · refine Sy.step (by kernel_rfl) (.bool false) (Quiet.pure (fun _ => by kernel_rfl)) ?_
      refine Sy.step (by kernel_rfl) (.bool false) (Quiet.pure (fun _ => by kernel_rfl)) ?_
      refine Sy.nil ?_
      refine Sy.then_ ?_
      refine Sy.cond_f (by kernel_rfl) (by kernel_rfl) ?_
      refine Sy.skip ?_
      refine Sy.then_ ?_
      refine Sy.seq ?_
      refine Sy.region ?_
      refine Sy.step (by kernel_rfl) (fv (valB l)) (Quiet.load 3 g34 0 4 56 56 (fcs (valB l)) _ _ rfl (by kernel_rfl) (by kernel_rfl) Try.underlying56 rfl (by kernel_rfl) _ (by kernel_rfl) (Nat.le_of_ble_eq_true (by kernel_rfl))) ?_
      refine Sy.step (by kernel_rfl) (fv r1) (Quiet.load 4 g35 0 4 56 56 (fcs r1) _ _ rfl (by kernel_rfl) (by kernel_rfl) Try.underlying56 rfl (by kernel_rfl) _ (by kernel_rfl) (Nat.le_of_ble_eq_true (by kernel_rfl))) ?_
      refine Sy.step (by kernel_rfl) (pv (valB l) r1 false) (Quiet.call 38 #[fv (valB l), fv r1] (fun _ => by kernel_rfl) (fun w => pointR_c w (valB l) r1 (by first | assumption | exact lt4 _ | decide +kernel) (by first | assumption | exact lt4 _ | decide +kernel))) ?_
      refine Sy.write (by kernel_rfl) 1 g1 27 (pcs 0 0 false) (pcs (valB l) r1 false) (by kernel_rfl) (Writes.store 0 27 (pcs (valB l) r1 false) _ _ rfl (by kernel_rfl) (by kernel_rfl) (by kernel_rfl) (Nat.le_of_ble_eq_true (by kernel_rfl)) (by kernel_rfl) (by kernel_rfl)) ?_
      refine Sy.step (by kernel_rfl) (.bool true) (Quiet.pure (fun _ => by kernel_rfl)) ?_
      refine Sy.nil ?_
      refine Sy.then_ ?_
      refine Sy.ret ?_
      rw [show (.tuple #[ptv (liftP l), .bool (liftB l)] : Value) = .tuple #[pv (valB l) r1 false, .bool true] from by
        have hb : liftB l = true := by unfold liftB; rw [← hz1, ← hk1, ← hb1]; rfl
        obtain ⟨u2, y2, e1, e2, e3, _, _⟩ := lift_yes hb
        rw [hb, e3]
        unfold ptv
        simp only
        rw [e1, e2, ← hz1, ← hr1]]
      exact Sy.ret2 (v := pv (valB l) r1 false) (u := .bool true) rfl (.inl (Res.cell (ty' := 27) g1 1 (pcs (valB l) r1 false) _ (by kernel_rfl) (by kernel_rfl) Try.underlying27 rfl (by kernel_rfl) (by kernel_rfl))) (.inl (show _ = _ by kernel_rfl))
end Go.Proofs.Ytneeefinaejgcaa.Cu

end
