/-
  The law on points and bytes, back and forth, walked.
-/
import Derived.Test.YtlojidnlkflpnaaCurveAlive
import Derived.Test.YtlojidnlkflpnaaCrvH
namespace Go.Proofs.Ytlojidnlkflpnaa.Cu
open Go.RowKit Go.Proofs.Ytlojidnlkflpnaa Go.Proofs.Ytlojidnlkflpnaa.Sy

theorem zero_of {x y : Nat} {i : Bool} (h : pv 0 0 true = pv x y i) (hx : x < K4) (hy : y < K4) : x = 0 ∧ y = 0 ∧ i = true := by
  unfold pv pcs at h
  injection h with h
  have h := congrArg Array.toList h
  have e1 : fws 0 = fws x := by have := congrArg (List.take 4) h; exact this
  have e2 : fws 0 = fws y := by have := congrArg (fun l => List.take 4 (List.drop 4 l)) h; exact this
  have e3 : [Value.bool true] = [Value.bool i] := by have := congrArg (List.drop 8) h; exact this
  refine ⟨(fv_inj (by decide) hx (by rw [fv_fws, fv_fws, e1])).symm, (fv_inj (by decide) hy (by rw [fv_fws, fv_fws, e2])).symm, ?_⟩
  simp at e3
  exact e3
theorem setAll_all : ∀ (vs : List Value) (o : Nat) (cs : Array Value), o + vs.length = cs.size → setAll cs o vs = (cs.toList.take o ++ vs).toArray
  | [], o, cs, h => by
    rw [List.append_nil, List.take_of_length_le (by simp at h ⊢; omega)]
    simp [setAll]
  | v :: r, o, cs, h => by
    have hlt : o < cs.size := by simp at h; omega
    rw [setAll, setAll_all r (o + 1) _ (by simp at h ⊢; omega)]
    congr 1
    rw [Array.toList_setIfInBounds, List.take_set, List.take_succ_eq_append_getElem (by simpa using hlt), List.set_append_right _ _ (by rw [List.length_take]; exact Nat.min_le_left _ _)]
    have : (cs.toList.take o).length = o := by simp; omega
    simp [this]
theorem key_set (cs : Array Value) (l : List UInt8) (h : l.length = cs.size) : setAll cs 0 (l.map bv).toArray.toList = (l.map bv).toArray := by
  have := setAll_all (l.map bv) 0 cs (by simp; omega)
  simpa using this
theorem key_sz (l : List UInt8) {n : Nat} (h : l.length = n) : (l.map bv).toArray.size = n := by simp; omega
theorem key_one (l : List UInt8) : (l.map bv).toArray.all (·.oneCell') = true := by simp [bv, Value.oneCell']
theorem own_take0 (l : List UInt8) (k : Nat) {n : Nat} (hl : l.length = n) (s : List Value) (hk : k < n) : ([bv (l.getD 0 0)] ++ s).toArray.toList.take 1 = (l.take 1).map bv := by
  cases l with
  | nil => simp at hl; omega
  | cons a l => rfl
theorem own_take (l : List UInt8) (k : Nat) {n : Nat} (hl : l.length = n) (s : List Value) (hk : k < n) : ((l.take k).map bv ++ ([bv (l.getD k 0)] ++ s)).toArray.toList.take (k + 1) = (l.take (k + 1)).map bv := by
  have hlt : k < l.length := by omega
  have e : ((l.take k).map bv).length = k := by simp; omega
  rw [show ((l.take k).map bv ++ ([bv (l.getD k 0)] ++ s)).toArray.toList = (l.take k).map bv ++ ([bv (l.getD k 0)] ++ s) from rfl, List.take_append, e, List.take_of_length_le (by omega), Nat.add_sub_cancel_left, List.take_succ_eq_append_getElem hlt, List.map_append]
  simp [List.getD, hlt]
theorem own_len (l : List UInt8) (k : Nat) {n : Nat} (hl : l.length = n) (hk : k ≤ n) : ((l.take k).map bv).length = k := by simp; omega
theorem own_size0 (l : List UInt8) (k : Nat) {n : Nat} (hl : l.length = n) (s : List Value) {c : Nat} (hc : s.length + 1 = c) (hk : k < n) : ([bv (l.getD 0 0)] ++ s).toArray.size = c := by simp; omega
theorem own_size (l : List UInt8) (k : Nat) {n : Nat} (hl : l.length = n) (s : List Value) {c : Nat} (hc : s.length + (k + 1) = c) (hk : k < n) : ((l.take k).map bv ++ ([bv (l.getD k 0)] ++ s)).toArray.size = c := by simp; omega
theorem own_full (l : List UInt8) (k : Nat) (hl : l.length = k + 1) {s : List Value} : ((l.take k).map bv ++ ([bv (l.getD k 0)] ++ s)) = l.map bv ++ s := by
  have h := own_take l k hl s (by omega)
  have hlt : k < l.length := by omega
  have e : l = l.take k ++ [l.getD k 0] := by
    have h2 := List.take_succ_eq_append_getElem hlt
    rw [List.take_of_length_le (by omega)] at h2
    rw [show l.getD k 0 = l[k] by simp [List.getD, hlt]]
    exact h2
  conv => rhs; rw [e, List.map_append, List.append_assoc]
  rfl
theorem one_at (b : List UInt8) {n : Nat} (hb : b.length = n) (k : Nat) (hk : k < n) : [bv (b.getD k 0)] = ((b.drop k).take 1).map bv := by
  have hlt : k < b.length := by omega
  rw [List.drop_eq_getElem_cons hlt]
  show _ = [bv b[k]]
  rw [show b.getD k 0 = b[k] by simp [List.getD, hlt]]
theorem src_blk {w : World} {g : Nat} {t : TypeId} {l : List UInt8} {sp : List Value} (h : Blk w g t (l.map bv ++ sp).toArray) : Src w (some ⟨g, 0, none⟩) l := fun _ =>
  ⟨g, 0, rfl, h.lt, fun j u hu => by
    rw [Nat.zero_add, h.cell]
    have hj := (List.getElem?_eq_some_iff.1 hu).1
    rw [List.getElem?_toArray, List.getElem?_append_left (by simpa using hj), List.getElem?_map, hu]
    rfl⟩
theorem neq_pt_same (w : World) (F : Slots) (o : Oper) (x y : Operand) (a b : Nat) (i : Bool) {yt : TypeId} (ho : o.op = .binOp .neq 26 x y yt) (hx : evF F x = pv a b i) (hy : evF F y = pv a b i) (ha : a < K4) (hb : b < K4) : (execOp (evF F) o).run Try.prog w = .ok (.value (.bool false)) w := by
  have h1 := run_eqGuard_pv .neq x y a b i a b i w
  have h2 := run_eql_pv w a b i a b i ha hb ha hb
  have e : sameB a b i a b i = true := by
    unfold sameB
    simp
  have h3 : (binOp .neq 26 (pv a b i) (pv a b i)).run Try.prog w = .ok (.bool false) w := by
    unfold pv at h2 ⊢
    rw [run_eql_struct] at h2
    rw [run_neq_struct]
    generalize (Op.equalIn 10000 26 (Value.agg (pcs a b i)) (Value.agg (pcs a b i))).run Try.prog w = r at h2 ⊢
    cases r with
    | ok q w' =>
      simp only [Result.andThen_ok] at h2 ⊢
      simp [e] at h2
      simp [h2]
    | halt q w' => cases h2
  unfold execOp
  simp only [ho, hx, hy, Sem.run_bind, h1, h3, Result.andThen_ok, Sem.run_pure]
theorem neq_u8_same (w : World) (F : Slots) (o : Oper) (x y : Operand) (a : UInt8) {yt : TypeId} (ho : o.op = .binOp .neq 5 x y yt) (hx : evF F x = bv a) (hy : evF F y = bv a) : (execOp (evF F) o).run Try.prog w = .ok (.value (.bool false)) w := by
  unfold execOp
  simp only [ho, hx, hy, bv]
  simp [eqGuard, binOp, Op.intCmp, Sem.run_bind, Result.andThen]
set_option maxHeartbeats 4000000 in
set_option maxRecDepth 100000 in
theorem law_back (w : World) (x y : Nat) (i : Bool) (hx : x < K4) (hy : y < K4) (A : Option Addr) (b : List UInt8) (n c : Nat) (hn : b.length = n) (hs : Src w A b) (hc : n ≤ c) : Calls Try.prog 8 #[pv x y i, .slice A n c] w (Gets w (.bool true)) := by
  obtain ⟨el, he⟩ : ∃ l, l = encS (dec x y i) := ⟨_, rfl⟩
  have hel : el.length = 33 := by rw [he]; exact encS_length _
  have hon := dec_on x y i
  obtain ⟨tx, ty, ti, ltx, lty, et, dt, rt⟩ := ptv_raw (dec x y i) (hon)
  have cE : ∀ w, Calls Try.prog 26 #[pv x y i] w (Gets w (.agg (el.map bv).toArray)) := fun w => by
    have h := enc_any w x y i hx hy
    rw [← he] at h
    exact h
  have cT : ∀ w, Calls Try.prog 30 #[pv x y i] w (Gets w (pv tx ty ti)) := fun w => by
    have h := taken_c w x y i hx hy
    rw [et] at h
    exact h
  have hde := dec_enc hon
  rw [← he] at hde
  obtain ⟨rx, ry, ri, lrx, lry, er, dr, rr⟩ := ptv_raw (decP b) (decP_on _)
  obtain ⟨kb, hkb⟩ : ∃ k, k = decOk b := ⟨_, rfl⟩
  have cD : ∀ w', Below w.heap.size w w' → Calls Try.prog 28 #[.slice A n c] w' (Gets w' (.tuple #[pv rx ry ri, .bool kb])) := fun w' hbel => by
    have h := decode_any w' A b n c hn (fun hne => by
      obtain ⟨ga, oa, rfl, hl2, hcell2⟩ := hs hne
      exact ⟨ga, oa, rfl, Nat.lt_of_lt_of_le hl2 hbel.size, fun j u hu => (Below.cell (p := ⟨ga, oa + j, none⟩) hbel hl2).trans (hcell2 j u hu)⟩) hc
    rw [← hkb, er] at h
    exact h
  refine Sy.enter (args := [pv x y i, .slice A n c]) Try.func8 rfl (Nat.le_of_ble_eq_true (by kernel_rfl)) ?_
  refine Sy.seq ?_
  refine Sy.region ?_
  refine Sy.make (by kernel_rfl) 26 (pcs x y i) ptr (fun _ => by kernel_rfl) (fun g0 => ?_)
  refine Sy.step (by kernel_rfl) (.bool false) (Quiet.pure (fun _ => by kernel_rfl)) ?_
  refine Sy.nil ?_
  refine Sy.then_ ?_
  refine Sy.seq ?_
  refine Sy.region ?_
  refine Sy.step (by kernel_rfl) (pv x y i) (Quiet.load 0 g0 0 9 26 26 (pcs x y i) _ _ rfl (by kernel_rfl) (by kernel_rfl) Try.underlying26 rfl (by kernel_rfl) _ (by kernel_rfl) (Nat.le_of_ble_eq_true (by kernel_rfl))) ?_
  refine Sy.step (by kernel_rfl) (.agg (el.map bv).toArray) (Quiet.call 26 #[pv x y i] (fun _ => by kernel_rfl) (cE)) ?_
  refine Sy.make (by kernel_rfl) 45 (.int .u8 0 :: .int .u8 0 :: .int .u8 0 :: [.int .u8 0, .int .u8 0, .int .u8 0, .int .u8 0, .int .u8 0, .int .u8 0, .int .u8 0, .int .u8 0, .int .u8 0, .int .u8 0, .int .u8 0, .int .u8 0, .int .u8 0, .int .u8 0, .int .u8 0, .int .u8 0, .int .u8 0, .int .u8 0, .int .u8 0, .int .u8 0, .int .u8 0, .int .u8 0, .int .u8 0, .int .u8 0, .int .u8 0, .int .u8 0, .int .u8 0, .int .u8 0, .int .u8 0, .int .u8 0]).toArray ptr (fun _ => by kernel_rfl) (fun g1 => ?_)
  refine Sy.write (by kernel_rfl) 1 g1 45 (.int .u8 0 :: .int .u8 0 :: .int .u8 0 :: [.int .u8 0, .int .u8 0, .int .u8 0, .int .u8 0, .int .u8 0, .int .u8 0, .int .u8 0, .int .u8 0, .int .u8 0, .int .u8 0, .int .u8 0, .int .u8 0, .int .u8 0, .int .u8 0, .int .u8 0, .int .u8 0, .int .u8 0, .int .u8 0, .int .u8 0, .int .u8 0, .int .u8 0, .int .u8 0, .int .u8 0, .int .u8 0, .int .u8 0, .int .u8 0, .int .u8 0, .int .u8 0, .int .u8 0, .int .u8 0]).toArray (el.map bv).toArray (by kernel_rfl) (Writes.store 0 45 (el.map bv).toArray _ _ rfl (by kernel_rfl) (by kernel_rfl) (by rw [key_sz el hel]; kernel_rfl) (by rw [key_sz el hel]; exact Nat.le_of_ble_eq_true (by kernel_rfl)) (key_one _) (key_set _ _ (by rw [hel]; kernel_rfl))) ?_
  refine Sy.nil ?_
  refine Sy.then_ ?_
  refine Sy.seq ?_
  refine Sy.region ?_
  refine Sy.step (by kernel_rfl) (.slice none 0 0) (Quiet.pure (fun _ => by kernel_rfl)) ?_
  refine Sy.nil ?_
  refine Sy.then_ ?_
  refine Sy.seq ?_
  refine Sy.seq ?_
  refine Sy.region ?_
  refine Sy.step (by kernel_rfl) (.int .i64 0) (Quiet.pure (fun _ => by kernel_rfl)) ?_
  refine Sy.nil ?_
  refine Sy.then_ ?_
  refine Sy.block ?_
  refine Sy.loopN 34 ?_
  refine Sy.tidyR (G := [(1, .slice A n c), (2, .pointer (some ⟨g0, 0, none⟩)), (5, .pointer (some ⟨g1, 0, none⟩)), (6, .slice none 0 0), (16, .int .i64 0)]) (M := [(g0, 26, (pcs x y i)), (g1, 45, (el.map bv).toArray)]) [true, true] (by kernel_rfl) (all_cons (by kernel_rfl) (all_cons (by kernel_rfl) (all_cons (by kernel_rfl) (all_cons (by kernel_rfl) (all_cons (by kernel_rfl) all_nil))))) ?_
  refine Sy.round ?_
  refine Sy.seq ?_
  refine Sy.region ?_
  refine Sy.step (by kernel_rfl) (.bool true) (Quiet.pure (fun _ => by kernel_rfl)) ?_
  refine Sy.nil ?_
  refine Sy.then_ ?_
  refine Sy.seq ?_
  refine Sy.cond_t (by kernel_rfl) (by kernel_rfl) ?_
  refine Sy.skip ?_
  refine Sy.then_ ?_
  refine Sy.seq ?_
  refine Sy.block ?_
  refine Sy.seq ?_
  refine Sy.region ?_
  refine Sy.step (by kernel_rfl) (.int .i64 0) (Quiet.pure (fun _ => by kernel_rfl)) ?_
  refine Sy.step (by kernel_rfl) (.int .i64 0) (Quiet.pure (fun _ => by kernel_rfl)) ?_
  refine Sy.nil ?_
  refine Sy.then_ ?_
  refine Sy.region ?_
  refine Sy.step (by kernel_rfl) (.slice none 0 0) (Quiet.pure (fun _ => by kernel_rfl)) ?_
  refine Sy.step (by kernel_rfl) (.int .i64 0) (Quiet.pure (fun _ => by kernel_rfl)) ?_
  refine Sy.step (by kernel_rfl) (.pointer (some ⟨g1, 0, none⟩)) (Quiet.pure (fun _ => by kernel_rfl)) ?_
  refine Sy.step (by kernel_rfl) (bv (el.getD 0 0)) (Quiet.cell 1 g1 0 45 5 (el.map bv).toArray _ _ rfl (by kernel_rfl) (by kernel_rfl) Try.underlying5 rfl _ (key_at el hel 0 (by decide))) ?_
  refine Sy.make (by kernel_rfl) 5 #[bv (el.getD 0 0)] (fun g => .slice (some ⟨g, 0, none⟩) 1 1) (fun _ => by kernel_rfl) (fun g2 => ?_)
  refine Sy.appendNil (by kernel_rfl) 44 5 _ _ Try.underlying44 info_u8 rfl rfl rfl rfl _ _ rfl (by kernel_rfl) 2 g2 0 1 1 5 #[bv (el.getD 0 0)] [bv (el.getD 0 0)] (by kernel_rfl) (by kernel_rfl) (by kernel_rfl) rfl (by decide) (by intro u hu; simp only [List.mem_cons, List.not_mem_nil, or_false] at hu; subst hu; rfl) (by decide) (fun q1 c1 s1 e1 m1 => ?_)
  refine Sy.step (by kernel_rfl) (.slice (some ⟨q1, 0, none⟩) 1 c1) (Quiet.pure (fun _ => by kernel_rfl)) ?_
  refine Sy.nil ?_
  refine Sy.in_ ?_
  refine Sy.then_ ?_
  refine Sy.region ?_
  refine Sy.step (by kernel_rfl) (.int .i64 1) (Quiet.pure (fun _ => by kernel_rfl)) ?_
  refine Sy.step (by kernel_rfl) (.int .i64 1) (Quiet.pure (fun _ => by kernel_rfl)) ?_
  refine Sy.nil ?_
  refine Sy.again ?_
  refine Sy.tidyR (G := [(1, .slice A n c), (2, .pointer (some ⟨g0, 0, none⟩)), (5, .pointer (some ⟨g1, 0, none⟩)), (6, .slice (some ⟨q1, 0, none⟩) 1 c1), (16, .int .i64 1)]) (M := [(g0, 26, (pcs x y i)), (g1, 45, (el.map bv).toArray), (q1, 5, ([bv (el.getD 0 0)] ++ s1).toArray)]) [true, true, false, true] (by kernel_rfl) (all_cons (by kernel_rfl) (all_cons (by kernel_rfl) (all_cons (by kernel_rfl) (all_cons (by kernel_rfl) (all_cons (by kernel_rfl) all_nil))))) ?_
  refine Sy.round ?_
  refine Sy.seq ?_
  refine Sy.region ?_
  refine Sy.step (by kernel_rfl) (.bool true) (Quiet.pure (fun _ => by kernel_rfl)) ?_
  refine Sy.nil ?_
  refine Sy.then_ ?_
  refine Sy.seq ?_
  refine Sy.cond_t (by kernel_rfl) (by kernel_rfl) ?_
  refine Sy.skip ?_
  refine Sy.then_ ?_
  refine Sy.seq ?_
  refine Sy.block ?_
  refine Sy.seq ?_
  refine Sy.region ?_
  refine Sy.step (by kernel_rfl) (.int .i64 1) (Quiet.pure (fun _ => by kernel_rfl)) ?_
  refine Sy.step (by kernel_rfl) (.int .i64 1) (Quiet.pure (fun _ => by kernel_rfl)) ?_
  refine Sy.nil ?_
  refine Sy.then_ ?_
  refine Sy.region ?_
  refine Sy.step (by kernel_rfl) (.slice (some ⟨q1, 0, none⟩) 1 c1) (Quiet.pure (fun _ => by kernel_rfl)) ?_
  refine Sy.step (by kernel_rfl) (.int .i64 1) (Quiet.pure (fun _ => by kernel_rfl)) ?_
  refine Sy.step (by kernel_rfl) (.pointer (some ⟨g1, 1, none⟩)) (Quiet.pure (fun _ => by kernel_rfl)) ?_
  refine Sy.step (by kernel_rfl) (bv (el.getD 1 0)) (Quiet.cell 1 g1 1 45 5 (el.map bv).toArray _ _ rfl (by kernel_rfl) (by kernel_rfl) Try.underlying5 rfl _ (key_at el hel 1 (by decide))) ?_
  refine Sy.make (by kernel_rfl) 5 #[bv (el.getD 1 0)] (fun g => .slice (some ⟨g, 0, none⟩) 1 1) (fun _ => by kernel_rfl) (fun g3 => ?_)
  refine Sy.append (by kernel_rfl) 44 5 _ _ Try.underlying44 info_u8 rfl rfl rfl rfl _ _ rfl 2 q1 1 c1 ([bv (el.getD 0 0)] ++ s1).toArray ((el.take 1).map bv) (by kernel_rfl) (by kernel_rfl) (own_take0 el 0 hel s1 (by decide)) (own_len el 1 hel (by decide)) (own_size0 el 0 hel s1 e1 (by decide)) m1 3 g3 0 1 1 5 #[bv (el.getD 1 0)] [bv (el.getD 1 0)] (by kernel_rfl) (by kernel_rfl) (by kernel_rfl) rfl (by intro u hu; simp only [List.mem_cons, List.not_mem_nil, or_false] at hu; subst hu; rfl) (by decide) (fun q2 c2 s2 e2 m2 => ?_)
  refine Sy.step (by kernel_rfl) (.slice (some ⟨q2, 0, none⟩) 2 c2) (Quiet.pure (fun _ => by kernel_rfl)) ?_
  refine Sy.nil ?_
  refine Sy.in_ ?_
  refine Sy.then_ ?_
  refine Sy.region ?_
  refine Sy.step (by kernel_rfl) (.int .i64 2) (Quiet.pure (fun _ => by kernel_rfl)) ?_
  refine Sy.step (by kernel_rfl) (.int .i64 2) (Quiet.pure (fun _ => by kernel_rfl)) ?_
  refine Sy.nil ?_
  refine Sy.again ?_
  refine Sy.tidyR (G := [(1, .slice A n c), (2, .pointer (some ⟨g0, 0, none⟩)), (5, .pointer (some ⟨g1, 0, none⟩)), (6, .slice (some ⟨q2, 0, none⟩) 2 c2), (16, .int .i64 2)]) (M := [(g0, 26, (pcs x y i)), (g1, 45, (el.map bv).toArray), (q2, 5, ((el.take 1).map bv ++ ([bv (el.getD 1 0)] ++ s2)).toArray)]) [true, true, true, false] (by kernel_rfl) (all_cons (by kernel_rfl) (all_cons (by kernel_rfl) (all_cons (by kernel_rfl) (all_cons (by kernel_rfl) (all_cons (by kernel_rfl) all_nil))))) ?_
  refine Sy.round ?_
  refine Sy.seq ?_
  refine Sy.region ?_
  refine Sy.step (by kernel_rfl) (.bool true) (Quiet.pure (fun _ => by kernel_rfl)) ?_
  refine Sy.nil ?_
  refine Sy.then_ ?_
  refine Sy.seq ?_
  refine Sy.cond_t (by kernel_rfl) (by kernel_rfl) ?_
  refine Sy.skip ?_
  refine Sy.then_ ?_
  refine Sy.seq ?_
  refine Sy.block ?_
  refine Sy.seq ?_
  refine Sy.region ?_
  refine Sy.step (by kernel_rfl) (.int .i64 2) (Quiet.pure (fun _ => by kernel_rfl)) ?_
  refine Sy.step (by kernel_rfl) (.int .i64 2) (Quiet.pure (fun _ => by kernel_rfl)) ?_
  refine Sy.nil ?_
  refine Sy.then_ ?_
  refine Sy.region ?_
  refine Sy.step (by kernel_rfl) (.slice (some ⟨q2, 0, none⟩) 2 c2) (Quiet.pure (fun _ => by kernel_rfl)) ?_
  refine Sy.step (by kernel_rfl) (.int .i64 2) (Quiet.pure (fun _ => by kernel_rfl)) ?_
  refine Sy.step (by kernel_rfl) (.pointer (some ⟨g1, 2, none⟩)) (Quiet.pure (fun _ => by kernel_rfl)) ?_
  refine Sy.step (by kernel_rfl) (bv (el.getD 2 0)) (Quiet.cell 1 g1 2 45 5 (el.map bv).toArray _ _ rfl (by kernel_rfl) (by kernel_rfl) Try.underlying5 rfl _ (key_at el hel 2 (by decide))) ?_
  refine Sy.make (by kernel_rfl) 5 #[bv (el.getD 2 0)] (fun g => .slice (some ⟨g, 0, none⟩) 1 1) (fun _ => by kernel_rfl) (fun g4 => ?_)
  refine Sy.append (by kernel_rfl) 44 5 _ _ Try.underlying44 info_u8 rfl rfl rfl rfl _ _ rfl 2 q2 2 c2 ((el.take 1).map bv ++ ([bv (el.getD 1 0)] ++ s2)).toArray ((el.take 2).map bv) (by kernel_rfl) (by kernel_rfl) (own_take el 1 hel s2 (by decide)) (own_len el 2 hel (by decide)) (own_size el 1 hel s2 e2 (by decide)) m2 3 g4 0 1 1 5 #[bv (el.getD 2 0)] [bv (el.getD 2 0)] (by kernel_rfl) (by kernel_rfl) (by kernel_rfl) rfl (by intro u hu; simp only [List.mem_cons, List.not_mem_nil, or_false] at hu; subst hu; rfl) (by decide) (fun q3 c3 s3 e3 m3 => ?_)
  refine Sy.step (by kernel_rfl) (.slice (some ⟨q3, 0, none⟩) 3 c3) (Quiet.pure (fun _ => by kernel_rfl)) ?_
  refine Sy.nil ?_
  refine Sy.in_ ?_
  refine Sy.then_ ?_
  refine Sy.region ?_
  refine Sy.step (by kernel_rfl) (.int .i64 3) (Quiet.pure (fun _ => by kernel_rfl)) ?_
  refine Sy.step (by kernel_rfl) (.int .i64 3) (Quiet.pure (fun _ => by kernel_rfl)) ?_
  refine Sy.nil ?_
  refine Sy.again ?_
  refine Sy.tidyR (G := [(1, .slice A n c), (2, .pointer (some ⟨g0, 0, none⟩)), (5, .pointer (some ⟨g1, 0, none⟩)), (6, .slice (some ⟨q3, 0, none⟩) 3 c3), (16, .int .i64 3)]) (M := [(g0, 26, (pcs x y i)), (g1, 45, (el.map bv).toArray), (q3, 5, ((el.take 2).map bv ++ ([bv (el.getD 2 0)] ++ s3)).toArray)]) [true, true, true, false] (by kernel_rfl) (all_cons (by kernel_rfl) (all_cons (by kernel_rfl) (all_cons (by kernel_rfl) (all_cons (by kernel_rfl) (all_cons (by kernel_rfl) all_nil))))) ?_
  refine Sy.round ?_
  refine Sy.seq ?_
  refine Sy.region ?_
  refine Sy.step (by kernel_rfl) (.bool true) (Quiet.pure (fun _ => by kernel_rfl)) ?_
  refine Sy.nil ?_
  refine Sy.then_ ?_
  refine Sy.seq ?_
  refine Sy.cond_t (by kernel_rfl) (by kernel_rfl) ?_
  refine Sy.skip ?_
  refine Sy.then_ ?_
  refine Sy.seq ?_
  refine Sy.block ?_
  refine Sy.seq ?_
  refine Sy.region ?_
  refine Sy.step (by kernel_rfl) (.int .i64 3) (Quiet.pure (fun _ => by kernel_rfl)) ?_
  refine Sy.step (by kernel_rfl) (.int .i64 3) (Quiet.pure (fun _ => by kernel_rfl)) ?_
  refine Sy.nil ?_
  refine Sy.then_ ?_
  refine Sy.region ?_
  refine Sy.step (by kernel_rfl) (.slice (some ⟨q3, 0, none⟩) 3 c3) (Quiet.pure (fun _ => by kernel_rfl)) ?_
  refine Sy.step (by kernel_rfl) (.int .i64 3) (Quiet.pure (fun _ => by kernel_rfl)) ?_
  refine Sy.step (by kernel_rfl) (.pointer (some ⟨g1, 3, none⟩)) (Quiet.pure (fun _ => by kernel_rfl)) ?_
  refine Sy.step (by kernel_rfl) (bv (el.getD 3 0)) (Quiet.cell 1 g1 3 45 5 (el.map bv).toArray _ _ rfl (by kernel_rfl) (by kernel_rfl) Try.underlying5 rfl _ (key_at el hel 3 (by decide))) ?_
  refine Sy.make (by kernel_rfl) 5 #[bv (el.getD 3 0)] (fun g => .slice (some ⟨g, 0, none⟩) 1 1) (fun _ => by kernel_rfl) (fun g5 => ?_)
  refine Sy.append (by kernel_rfl) 44 5 _ _ Try.underlying44 info_u8 rfl rfl rfl rfl _ _ rfl 2 q3 3 c3 ((el.take 2).map bv ++ ([bv (el.getD 2 0)] ++ s3)).toArray ((el.take 3).map bv) (by kernel_rfl) (by kernel_rfl) (own_take el 2 hel s3 (by decide)) (own_len el 3 hel (by decide)) (own_size el 2 hel s3 e3 (by decide)) m3 3 g5 0 1 1 5 #[bv (el.getD 3 0)] [bv (el.getD 3 0)] (by kernel_rfl) (by kernel_rfl) (by kernel_rfl) rfl (by intro u hu; simp only [List.mem_cons, List.not_mem_nil, or_false] at hu; subst hu; rfl) (by decide) (fun q4 c4 s4 e4 m4 => ?_)
  refine Sy.step (by kernel_rfl) (.slice (some ⟨q4, 0, none⟩) 4 c4) (Quiet.pure (fun _ => by kernel_rfl)) ?_
  refine Sy.nil ?_
  refine Sy.in_ ?_
  refine Sy.then_ ?_
  refine Sy.region ?_
  refine Sy.step (by kernel_rfl) (.int .i64 4) (Quiet.pure (fun _ => by kernel_rfl)) ?_
  refine Sy.step (by kernel_rfl) (.int .i64 4) (Quiet.pure (fun _ => by kernel_rfl)) ?_
  refine Sy.nil ?_
  refine Sy.again ?_
  refine Sy.tidyR (G := [(1, .slice A n c), (2, .pointer (some ⟨g0, 0, none⟩)), (5, .pointer (some ⟨g1, 0, none⟩)), (6, .slice (some ⟨q4, 0, none⟩) 4 c4), (16, .int .i64 4)]) (M := [(g0, 26, (pcs x y i)), (g1, 45, (el.map bv).toArray), (q4, 5, ((el.take 3).map bv ++ ([bv (el.getD 3 0)] ++ s4)).toArray)]) [true, true, true, false] (by kernel_rfl) (all_cons (by kernel_rfl) (all_cons (by kernel_rfl) (all_cons (by kernel_rfl) (all_cons (by kernel_rfl) (all_cons (by kernel_rfl) all_nil))))) ?_
  refine Sy.round ?_
  refine Sy.seq ?_
  refine Sy.region ?_
  refine Sy.step (by kernel_rfl) (.bool true) (Quiet.pure (fun _ => by kernel_rfl)) ?_
  refine Sy.nil ?_
  refine Sy.then_ ?_
  refine Sy.seq ?_
  refine Sy.cond_t (by kernel_rfl) (by kernel_rfl) ?_
  refine Sy.skip ?_
  refine Sy.then_ ?_
  refine Sy.seq ?_
  refine Sy.block ?_
  refine Sy.seq ?_
  refine Sy.region ?_
  refine Sy.step (by kernel_rfl) (.int .i64 4) (Quiet.pure (fun _ => by kernel_rfl)) ?_
  refine Sy.step (by kernel_rfl) (.int .i64 4) (Quiet.pure (fun _ => by kernel_rfl)) ?_
  refine Sy.nil ?_
  refine Sy.then_ ?_
  refine Sy.region ?_
  refine Sy.step (by kernel_rfl) (.slice (some ⟨q4, 0, none⟩) 4 c4) (Quiet.pure (fun _ => by kernel_rfl)) ?_
  refine Sy.step (by kernel_rfl) (.int .i64 4) (Quiet.pure (fun _ => by kernel_rfl)) ?_
  refine Sy.step (by kernel_rfl) (.pointer (some ⟨g1, 4, none⟩)) (Quiet.pure (fun _ => by kernel_rfl)) ?_
  refine Sy.step (by kernel_rfl) (bv (el.getD 4 0)) (Quiet.cell 1 g1 4 45 5 (el.map bv).toArray _ _ rfl (by kernel_rfl) (by kernel_rfl) Try.underlying5 rfl _ (key_at el hel 4 (by decide))) ?_
  refine Sy.make (by kernel_rfl) 5 #[bv (el.getD 4 0)] (fun g => .slice (some ⟨g, 0, none⟩) 1 1) (fun _ => by kernel_rfl) (fun g6 => ?_)
  refine Sy.append (by kernel_rfl) 44 5 _ _ Try.underlying44 info_u8 rfl rfl rfl rfl _ _ rfl 2 q4 4 c4 ((el.take 3).map bv ++ ([bv (el.getD 3 0)] ++ s4)).toArray ((el.take 4).map bv) (by kernel_rfl) (by kernel_rfl) (own_take el 3 hel s4 (by decide)) (own_len el 4 hel (by decide)) (own_size el 3 hel s4 e4 (by decide)) m4 3 g6 0 1 1 5 #[bv (el.getD 4 0)] [bv (el.getD 4 0)] (by kernel_rfl) (by kernel_rfl) (by kernel_rfl) rfl (by intro u hu; simp only [List.mem_cons, List.not_mem_nil, or_false] at hu; subst hu; rfl) (by decide) (fun q5 c5 s5 e5 m5 => ?_)
  refine Sy.step (by kernel_rfl) (.slice (some ⟨q5, 0, none⟩) 5 c5) (Quiet.pure (fun _ => by kernel_rfl)) ?_
  refine Sy.nil ?_
  refine Sy.in_ ?_
  refine Sy.then_ ?_
  refine Sy.region ?_
  refine Sy.step (by kernel_rfl) (.int .i64 5) (Quiet.pure (fun _ => by kernel_rfl)) ?_
  refine Sy.step (by kernel_rfl) (.int .i64 5) (Quiet.pure (fun _ => by kernel_rfl)) ?_
  refine Sy.nil ?_
  refine Sy.again ?_
  refine Sy.tidyR (G := [(1, .slice A n c), (2, .pointer (some ⟨g0, 0, none⟩)), (5, .pointer (some ⟨g1, 0, none⟩)), (6, .slice (some ⟨q5, 0, none⟩) 5 c5), (16, .int .i64 5)]) (M := [(g0, 26, (pcs x y i)), (g1, 45, (el.map bv).toArray), (q5, 5, ((el.take 4).map bv ++ ([bv (el.getD 4 0)] ++ s5)).toArray)]) [true, true, true, false] (by kernel_rfl) (all_cons (by kernel_rfl) (all_cons (by kernel_rfl) (all_cons (by kernel_rfl) (all_cons (by kernel_rfl) (all_cons (by kernel_rfl) all_nil))))) ?_
  refine Sy.round ?_
  refine Sy.seq ?_
  refine Sy.region ?_
  refine Sy.step (by kernel_rfl) (.bool true) (Quiet.pure (fun _ => by kernel_rfl)) ?_
  refine Sy.nil ?_
  refine Sy.then_ ?_
  refine Sy.seq ?_
  refine Sy.cond_t (by kernel_rfl) (by kernel_rfl) ?_
  refine Sy.skip ?_
  refine Sy.then_ ?_
  refine Sy.seq ?_
  refine Sy.block ?_
  refine Sy.seq ?_
  refine Sy.region ?_
  refine Sy.step (by kernel_rfl) (.int .i64 5) (Quiet.pure (fun _ => by kernel_rfl)) ?_
  refine Sy.step (by kernel_rfl) (.int .i64 5) (Quiet.pure (fun _ => by kernel_rfl)) ?_
  refine Sy.nil ?_
  refine Sy.then_ ?_
  refine Sy.region ?_
  refine Sy.step (by kernel_rfl) (.slice (some ⟨q5, 0, none⟩) 5 c5) (Quiet.pure (fun _ => by kernel_rfl)) ?_
  refine Sy.step (by kernel_rfl) (.int .i64 5) (Quiet.pure (fun _ => by kernel_rfl)) ?_
  refine Sy.step (by kernel_rfl) (.pointer (some ⟨g1, 5, none⟩)) (Quiet.pure (fun _ => by kernel_rfl)) ?_
  refine Sy.step (by kernel_rfl) (bv (el.getD 5 0)) (Quiet.cell 1 g1 5 45 5 (el.map bv).toArray _ _ rfl (by kernel_rfl) (by kernel_rfl) Try.underlying5 rfl _ (key_at el hel 5 (by decide))) ?_
  refine Sy.make (by kernel_rfl) 5 #[bv (el.getD 5 0)] (fun g => .slice (some ⟨g, 0, none⟩) 1 1) (fun _ => by kernel_rfl) (fun g7 => ?_)
  refine Sy.append (by kernel_rfl) 44 5 _ _ Try.underlying44 info_u8 rfl rfl rfl rfl _ _ rfl 2 q5 5 c5 ((el.take 4).map bv ++ ([bv (el.getD 4 0)] ++ s5)).toArray ((el.take 5).map bv) (by kernel_rfl) (by kernel_rfl) (own_take el 4 hel s5 (by decide)) (own_len el 5 hel (by decide)) (own_size el 4 hel s5 e5 (by decide)) m5 3 g7 0 1 1 5 #[bv (el.getD 5 0)] [bv (el.getD 5 0)] (by kernel_rfl) (by kernel_rfl) (by kernel_rfl) rfl (by intro u hu; simp only [List.mem_cons, List.not_mem_nil, or_false] at hu; subst hu; rfl) (by decide) (fun q6 c6 s6 e6 m6 => ?_)
  refine Sy.step (by kernel_rfl) (.slice (some ⟨q6, 0, none⟩) 6 c6) (Quiet.pure (fun _ => by kernel_rfl)) ?_
  refine Sy.nil ?_
  refine Sy.in_ ?_
  refine Sy.then_ ?_
  refine Sy.region ?_
  refine Sy.step (by kernel_rfl) (.int .i64 6) (Quiet.pure (fun _ => by kernel_rfl)) ?_
  refine Sy.step (by kernel_rfl) (.int .i64 6) (Quiet.pure (fun _ => by kernel_rfl)) ?_
  refine Sy.nil ?_
  refine Sy.again ?_
  refine Sy.tidyR (G := [(1, .slice A n c), (2, .pointer (some ⟨g0, 0, none⟩)), (5, .pointer (some ⟨g1, 0, none⟩)), (6, .slice (some ⟨q6, 0, none⟩) 6 c6), (16, .int .i64 6)]) (M := [(g0, 26, (pcs x y i)), (g1, 45, (el.map bv).toArray), (q6, 5, ((el.take 5).map bv ++ ([bv (el.getD 5 0)] ++ s6)).toArray)]) [true, true, true, false] (by kernel_rfl) (all_cons (by kernel_rfl) (all_cons (by kernel_rfl) (all_cons (by kernel_rfl) (all_cons (by kernel_rfl) (all_cons (by kernel_rfl) all_nil))))) ?_
  refine Sy.round ?_
  refine Sy.seq ?_
  refine Sy.region ?_
  refine Sy.step (by kernel_rfl) (.bool true) (Quiet.pure (fun _ => by kernel_rfl)) ?_
  refine Sy.nil ?_
  refine Sy.then_ ?_
  refine Sy.seq ?_
  refine Sy.cond_t (by kernel_rfl) (by kernel_rfl) ?_
  refine Sy.skip ?_
  refine Sy.then_ ?_
  refine Sy.seq ?_
  refine Sy.block ?_
  refine Sy.seq ?_
  refine Sy.region ?_
  refine Sy.step (by kernel_rfl) (.int .i64 6) (Quiet.pure (fun _ => by kernel_rfl)) ?_
  refine Sy.step (by kernel_rfl) (.int .i64 6) (Quiet.pure (fun _ => by kernel_rfl)) ?_
  refine Sy.nil ?_
  refine Sy.then_ ?_
  refine Sy.region ?_
  refine Sy.step (by kernel_rfl) (.slice (some ⟨q6, 0, none⟩) 6 c6) (Quiet.pure (fun _ => by kernel_rfl)) ?_
  refine Sy.step (by kernel_rfl) (.int .i64 6) (Quiet.pure (fun _ => by kernel_rfl)) ?_
  refine Sy.step (by kernel_rfl) (.pointer (some ⟨g1, 6, none⟩)) (Quiet.pure (fun _ => by kernel_rfl)) ?_
  refine Sy.step (by kernel_rfl) (bv (el.getD 6 0)) (Quiet.cell 1 g1 6 45 5 (el.map bv).toArray _ _ rfl (by kernel_rfl) (by kernel_rfl) Try.underlying5 rfl _ (key_at el hel 6 (by decide))) ?_
  refine Sy.make (by kernel_rfl) 5 #[bv (el.getD 6 0)] (fun g => .slice (some ⟨g, 0, none⟩) 1 1) (fun _ => by kernel_rfl) (fun g8 => ?_)
  refine Sy.append (by kernel_rfl) 44 5 _ _ Try.underlying44 info_u8 rfl rfl rfl rfl _ _ rfl 2 q6 6 c6 ((el.take 5).map bv ++ ([bv (el.getD 5 0)] ++ s6)).toArray ((el.take 6).map bv) (by kernel_rfl) (by kernel_rfl) (own_take el 5 hel s6 (by decide)) (own_len el 6 hel (by decide)) (own_size el 5 hel s6 e6 (by decide)) m6 3 g8 0 1 1 5 #[bv (el.getD 6 0)] [bv (el.getD 6 0)] (by kernel_rfl) (by kernel_rfl) (by kernel_rfl) rfl (by intro u hu; simp only [List.mem_cons, List.not_mem_nil, or_false] at hu; subst hu; rfl) (by decide) (fun q7 c7 s7 e7 m7 => ?_)
  refine Sy.step (by kernel_rfl) (.slice (some ⟨q7, 0, none⟩) 7 c7) (Quiet.pure (fun _ => by kernel_rfl)) ?_
  refine Sy.nil ?_
  refine Sy.in_ ?_
  refine Sy.then_ ?_
  refine Sy.region ?_
  refine Sy.step (by kernel_rfl) (.int .i64 7) (Quiet.pure (fun _ => by kernel_rfl)) ?_
  refine Sy.step (by kernel_rfl) (.int .i64 7) (Quiet.pure (fun _ => by kernel_rfl)) ?_
  refine Sy.nil ?_
  refine Sy.again ?_
  refine Sy.tidyR (G := [(1, .slice A n c), (2, .pointer (some ⟨g0, 0, none⟩)), (5, .pointer (some ⟨g1, 0, none⟩)), (6, .slice (some ⟨q7, 0, none⟩) 7 c7), (16, .int .i64 7)]) (M := [(g0, 26, (pcs x y i)), (g1, 45, (el.map bv).toArray), (q7, 5, ((el.take 6).map bv ++ ([bv (el.getD 6 0)] ++ s7)).toArray)]) [true, true, true, false] (by kernel_rfl) (all_cons (by kernel_rfl) (all_cons (by kernel_rfl) (all_cons (by kernel_rfl) (all_cons (by kernel_rfl) (all_cons (by kernel_rfl) all_nil))))) ?_
  refine Sy.round ?_
  refine Sy.seq ?_
  refine Sy.region ?_
  refine Sy.step (by kernel_rfl) (.bool true) (Quiet.pure (fun _ => by kernel_rfl)) ?_
  refine Sy.nil ?_
  refine Sy.then_ ?_
  refine Sy.seq ?_
  refine Sy.cond_t (by kernel_rfl) (by kernel_rfl) ?_
  refine Sy.skip ?_
  refine Sy.then_ ?_
  refine Sy.seq ?_
  refine Sy.block ?_
  refine Sy.seq ?_
  refine Sy.region ?_
  refine Sy.step (by kernel_rfl) (.int .i64 7) (Quiet.pure (fun _ => by kernel_rfl)) ?_
  refine Sy.step (by kernel_rfl) (.int .i64 7) (Quiet.pure (fun _ => by kernel_rfl)) ?_
  refine Sy.nil ?_
  refine Sy.then_ ?_
  refine Sy.region ?_
  refine Sy.step (by kernel_rfl) (.slice (some ⟨q7, 0, none⟩) 7 c7) (Quiet.pure (fun _ => by kernel_rfl)) ?_
  refine Sy.step (by kernel_rfl) (.int .i64 7) (Quiet.pure (fun _ => by kernel_rfl)) ?_
  refine Sy.step (by kernel_rfl) (.pointer (some ⟨g1, 7, none⟩)) (Quiet.pure (fun _ => by kernel_rfl)) ?_
  refine Sy.step (by kernel_rfl) (bv (el.getD 7 0)) (Quiet.cell 1 g1 7 45 5 (el.map bv).toArray _ _ rfl (by kernel_rfl) (by kernel_rfl) Try.underlying5 rfl _ (key_at el hel 7 (by decide))) ?_
  refine Sy.make (by kernel_rfl) 5 #[bv (el.getD 7 0)] (fun g => .slice (some ⟨g, 0, none⟩) 1 1) (fun _ => by kernel_rfl) (fun g9 => ?_)
  refine Sy.append (by kernel_rfl) 44 5 _ _ Try.underlying44 info_u8 rfl rfl rfl rfl _ _ rfl 2 q7 7 c7 ((el.take 6).map bv ++ ([bv (el.getD 6 0)] ++ s7)).toArray ((el.take 7).map bv) (by kernel_rfl) (by kernel_rfl) (own_take el 6 hel s7 (by decide)) (own_len el 7 hel (by decide)) (own_size el 6 hel s7 e7 (by decide)) m7 3 g9 0 1 1 5 #[bv (el.getD 7 0)] [bv (el.getD 7 0)] (by kernel_rfl) (by kernel_rfl) (by kernel_rfl) rfl (by intro u hu; simp only [List.mem_cons, List.not_mem_nil, or_false] at hu; subst hu; rfl) (by decide) (fun q8 c8 s8 e8 m8 => ?_)
  refine Sy.step (by kernel_rfl) (.slice (some ⟨q8, 0, none⟩) 8 c8) (Quiet.pure (fun _ => by kernel_rfl)) ?_
  refine Sy.nil ?_
  refine Sy.in_ ?_
  refine Sy.then_ ?_
  refine Sy.region ?_
  refine Sy.step (by kernel_rfl) (.int .i64 8) (Quiet.pure (fun _ => by kernel_rfl)) ?_
  refine Sy.step (by kernel_rfl) (.int .i64 8) (Quiet.pure (fun _ => by kernel_rfl)) ?_
  refine Sy.nil ?_
  refine Sy.again ?_
  refine Sy.tidyR (G := [(1, .slice A n c), (2, .pointer (some ⟨g0, 0, none⟩)), (5, .pointer (some ⟨g1, 0, none⟩)), (6, .slice (some ⟨q8, 0, none⟩) 8 c8), (16, .int .i64 8)]) (M := [(g0, 26, (pcs x y i)), (g1, 45, (el.map bv).toArray), (q8, 5, ((el.take 7).map bv ++ ([bv (el.getD 7 0)] ++ s8)).toArray)]) [true, true, true, false] (by kernel_rfl) (all_cons (by kernel_rfl) (all_cons (by kernel_rfl) (all_cons (by kernel_rfl) (all_cons (by kernel_rfl) (all_cons (by kernel_rfl) all_nil))))) ?_
  refine Sy.round ?_
  refine Sy.seq ?_
  refine Sy.region ?_
  refine Sy.step (by kernel_rfl) (.bool true) (Quiet.pure (fun _ => by kernel_rfl)) ?_
  refine Sy.nil ?_
  refine Sy.then_ ?_
  refine Sy.seq ?_
  refine Sy.cond_t (by kernel_rfl) (by kernel_rfl) ?_
  refine Sy.skip ?_
  refine Sy.then_ ?_
  refine Sy.seq ?_
  refine Sy.block ?_
  refine Sy.seq ?_
  refine Sy.region ?_
  refine Sy.step (by kernel_rfl) (.int .i64 8) (Quiet.pure (fun _ => by kernel_rfl)) ?_
  refine Sy.step (by kernel_rfl) (.int .i64 8) (Quiet.pure (fun _ => by kernel_rfl)) ?_
  refine Sy.nil ?_
  refine Sy.then_ ?_
  refine Sy.region ?_
  refine Sy.step (by kernel_rfl) (.slice (some ⟨q8, 0, none⟩) 8 c8) (Quiet.pure (fun _ => by kernel_rfl)) ?_
  refine Sy.step (by kernel_rfl) (.int .i64 8) (Quiet.pure (fun _ => by kernel_rfl)) ?_
  refine Sy.step (by kernel_rfl) (.pointer (some ⟨g1, 8, none⟩)) (Quiet.pure (fun _ => by kernel_rfl)) ?_
  refine Sy.step (by kernel_rfl) (bv (el.getD 8 0)) (Quiet.cell 1 g1 8 45 5 (el.map bv).toArray _ _ rfl (by kernel_rfl) (by kernel_rfl) Try.underlying5 rfl _ (key_at el hel 8 (by decide))) ?_
  refine Sy.make (by kernel_rfl) 5 #[bv (el.getD 8 0)] (fun g => .slice (some ⟨g, 0, none⟩) 1 1) (fun _ => by kernel_rfl) (fun g10 => ?_)
  refine Sy.append (by kernel_rfl) 44 5 _ _ Try.underlying44 info_u8 rfl rfl rfl rfl _ _ rfl 2 q8 8 c8 ((el.take 7).map bv ++ ([bv (el.getD 7 0)] ++ s8)).toArray ((el.take 8).map bv) (by kernel_rfl) (by kernel_rfl) (own_take el 7 hel s8 (by decide)) (own_len el 8 hel (by decide)) (own_size el 7 hel s8 e8 (by decide)) m8 3 g10 0 1 1 5 #[bv (el.getD 8 0)] [bv (el.getD 8 0)] (by kernel_rfl) (by kernel_rfl) (by kernel_rfl) rfl (by intro u hu; simp only [List.mem_cons, List.not_mem_nil, or_false] at hu; subst hu; rfl) (by decide) (fun q9 c9 s9 e9 m9 => ?_)
  refine Sy.step (by kernel_rfl) (.slice (some ⟨q9, 0, none⟩) 9 c9) (Quiet.pure (fun _ => by kernel_rfl)) ?_
  refine Sy.nil ?_
  refine Sy.in_ ?_
  refine Sy.then_ ?_
  refine Sy.region ?_
  refine Sy.step (by kernel_rfl) (.int .i64 9) (Quiet.pure (fun _ => by kernel_rfl)) ?_
  refine Sy.step (by kernel_rfl) (.int .i64 9) (Quiet.pure (fun _ => by kernel_rfl)) ?_
  refine Sy.nil ?_
  refine Sy.again ?_
  refine Sy.tidyR (G := [(1, .slice A n c), (2, .pointer (some ⟨g0, 0, none⟩)), (5, .pointer (some ⟨g1, 0, none⟩)), (6, .slice (some ⟨q9, 0, none⟩) 9 c9), (16, .int .i64 9)]) (M := [(g0, 26, (pcs x y i)), (g1, 45, (el.map bv).toArray), (q9, 5, ((el.take 8).map bv ++ ([bv (el.getD 8 0)] ++ s9)).toArray)]) [true, true, true, false] (by kernel_rfl) (all_cons (by kernel_rfl) (all_cons (by kernel_rfl) (all_cons (by kernel_rfl) (all_cons (by kernel_rfl) (all_cons (by kernel_rfl) all_nil))))) ?_
  refine Sy.round ?_
  refine Sy.seq ?_
  refine Sy.region ?_
  refine Sy.step (by kernel_rfl) (.bool true) (Quiet.pure (fun _ => by kernel_rfl)) ?_
  refine Sy.nil ?_
  refine Sy.then_ ?_
  refine Sy.seq ?_
  refine Sy.cond_t (by kernel_rfl) (by kernel_rfl) ?_
  refine Sy.skip ?_
  refine Sy.then_ ?_
  refine Sy.seq ?_
  refine Sy.block ?_
  refine Sy.seq ?_
  refine Sy.region ?_
  refine Sy.step (by kernel_rfl) (.int .i64 9) (Quiet.pure (fun _ => by kernel_rfl)) ?_
  refine Sy.step (by kernel_rfl) (.int .i64 9) (Quiet.pure (fun _ => by kernel_rfl)) ?_
  refine Sy.nil ?_
  refine Sy.then_ ?_
  refine Sy.region ?_
  refine Sy.step (by kernel_rfl) (.slice (some ⟨q9, 0, none⟩) 9 c9) (Quiet.pure (fun _ => by kernel_rfl)) ?_
  refine Sy.step (by kernel_rfl) (.int .i64 9) (Quiet.pure (fun _ => by kernel_rfl)) ?_
  refine Sy.step (by kernel_rfl) (.pointer (some ⟨g1, 9, none⟩)) (Quiet.pure (fun _ => by kernel_rfl)) ?_
  refine Sy.step (by kernel_rfl) (bv (el.getD 9 0)) (Quiet.cell 1 g1 9 45 5 (el.map bv).toArray _ _ rfl (by kernel_rfl) (by kernel_rfl) Try.underlying5 rfl _ (key_at el hel 9 (by decide))) ?_
  refine Sy.make (by kernel_rfl) 5 #[bv (el.getD 9 0)] (fun g => .slice (some ⟨g, 0, none⟩) 1 1) (fun _ => by kernel_rfl) (fun g11 => ?_)
  refine Sy.append (by kernel_rfl) 44 5 _ _ Try.underlying44 info_u8 rfl rfl rfl rfl _ _ rfl 2 q9 9 c9 ((el.take 8).map bv ++ ([bv (el.getD 8 0)] ++ s9)).toArray ((el.take 9).map bv) (by kernel_rfl) (by kernel_rfl) (own_take el 8 hel s9 (by decide)) (own_len el 9 hel (by decide)) (own_size el 8 hel s9 e9 (by decide)) m9 3 g11 0 1 1 5 #[bv (el.getD 9 0)] [bv (el.getD 9 0)] (by kernel_rfl) (by kernel_rfl) (by kernel_rfl) rfl (by intro u hu; simp only [List.mem_cons, List.not_mem_nil, or_false] at hu; subst hu; rfl) (by decide) (fun q10 c10 s10 e10 m10 => ?_)
  refine Sy.step (by kernel_rfl) (.slice (some ⟨q10, 0, none⟩) 10 c10) (Quiet.pure (fun _ => by kernel_rfl)) ?_
  refine Sy.nil ?_
  refine Sy.in_ ?_
  refine Sy.then_ ?_
  refine Sy.region ?_
  refine Sy.step (by kernel_rfl) (.int .i64 10) (Quiet.pure (fun _ => by kernel_rfl)) ?_
  refine Sy.step (by kernel_rfl) (.int .i64 10) (Quiet.pure (fun _ => by kernel_rfl)) ?_
  refine Sy.nil ?_
  refine Sy.again ?_
  refine Sy.tidyR (G := [(1, .slice A n c), (2, .pointer (some ⟨g0, 0, none⟩)), (5, .pointer (some ⟨g1, 0, none⟩)), (6, .slice (some ⟨q10, 0, none⟩) 10 c10), (16, .int .i64 10)]) (M := [(g0, 26, (pcs x y i)), (g1, 45, (el.map bv).toArray), (q10, 5, ((el.take 9).map bv ++ ([bv (el.getD 9 0)] ++ s10)).toArray)]) [true, true, true, false] (by kernel_rfl) (all_cons (by kernel_rfl) (all_cons (by kernel_rfl) (all_cons (by kernel_rfl) (all_cons (by kernel_rfl) (all_cons (by kernel_rfl) all_nil))))) ?_
  refine Sy.round ?_
  refine Sy.seq ?_
  refine Sy.region ?_
  refine Sy.step (by kernel_rfl) (.bool true) (Quiet.pure (fun _ => by kernel_rfl)) ?_
  refine Sy.nil ?_
  refine Sy.then_ ?_
  refine Sy.seq ?_
  refine Sy.cond_t (by kernel_rfl) (by kernel_rfl) ?_
  refine Sy.skip ?_
  refine Sy.then_ ?_
  refine Sy.seq ?_
  refine Sy.block ?_
  refine Sy.seq ?_
  refine Sy.region ?_
  refine Sy.step (by kernel_rfl) (.int .i64 10) (Quiet.pure (fun _ => by kernel_rfl)) ?_
  refine Sy.step (by kernel_rfl) (.int .i64 10) (Quiet.pure (fun _ => by kernel_rfl)) ?_
  refine Sy.nil ?_
  refine Sy.then_ ?_
  refine Sy.region ?_
  refine Sy.step (by kernel_rfl) (.slice (some ⟨q10, 0, none⟩) 10 c10) (Quiet.pure (fun _ => by kernel_rfl)) ?_
  refine Sy.step (by kernel_rfl) (.int .i64 10) (Quiet.pure (fun _ => by kernel_rfl)) ?_
  refine Sy.step (by kernel_rfl) (.pointer (some ⟨g1, 10, none⟩)) (Quiet.pure (fun _ => by kernel_rfl)) ?_
  refine Sy.step (by kernel_rfl) (bv (el.getD 10 0)) (Quiet.cell 1 g1 10 45 5 (el.map bv).toArray _ _ rfl (by kernel_rfl) (by kernel_rfl) Try.underlying5 rfl _ (key_at el hel 10 (by decide))) ?_
  refine Sy.make (by kernel_rfl) 5 #[bv (el.getD 10 0)] (fun g => .slice (some ⟨g, 0, none⟩) 1 1) (fun _ => by kernel_rfl) (fun g12 => ?_)
  refine Sy.append (by kernel_rfl) 44 5 _ _ Try.underlying44 info_u8 rfl rfl rfl rfl _ _ rfl 2 q10 10 c10 ((el.take 9).map bv ++ ([bv (el.getD 9 0)] ++ s10)).toArray ((el.take 10).map bv) (by kernel_rfl) (by kernel_rfl) (own_take el 9 hel s10 (by decide)) (own_len el 10 hel (by decide)) (own_size el 9 hel s10 e10 (by decide)) m10 3 g12 0 1 1 5 #[bv (el.getD 10 0)] [bv (el.getD 10 0)] (by kernel_rfl) (by kernel_rfl) (by kernel_rfl) rfl (by intro u hu; simp only [List.mem_cons, List.not_mem_nil, or_false] at hu; subst hu; rfl) (by decide) (fun q11 c11 s11 e11 m11 => ?_)
  refine Sy.step (by kernel_rfl) (.slice (some ⟨q11, 0, none⟩) 11 c11) (Quiet.pure (fun _ => by kernel_rfl)) ?_
  refine Sy.nil ?_
  refine Sy.in_ ?_
  refine Sy.then_ ?_
  refine Sy.region ?_
  refine Sy.step (by kernel_rfl) (.int .i64 11) (Quiet.pure (fun _ => by kernel_rfl)) ?_
  refine Sy.step (by kernel_rfl) (.int .i64 11) (Quiet.pure (fun _ => by kernel_rfl)) ?_
  refine Sy.nil ?_
  refine Sy.again ?_
  refine Sy.tidyR (G := [(1, .slice A n c), (2, .pointer (some ⟨g0, 0, none⟩)), (5, .pointer (some ⟨g1, 0, none⟩)), (6, .slice (some ⟨q11, 0, none⟩) 11 c11), (16, .int .i64 11)]) (M := [(g0, 26, (pcs x y i)), (g1, 45, (el.map bv).toArray), (q11, 5, ((el.take 10).map bv ++ ([bv (el.getD 10 0)] ++ s11)).toArray)]) [true, true, true, false] (by kernel_rfl) (all_cons (by kernel_rfl) (all_cons (by kernel_rfl) (all_cons (by kernel_rfl) (all_cons (by kernel_rfl) (all_cons (by kernel_rfl) all_nil))))) ?_
  refine Sy.round ?_
  refine Sy.seq ?_
  refine Sy.region ?_
  refine Sy.step (by kernel_rfl) (.bool true) (Quiet.pure (fun _ => by kernel_rfl)) ?_
  refine Sy.nil ?_
  refine Sy.then_ ?_
  refine Sy.seq ?_
  refine Sy.cond_t (by kernel_rfl) (by kernel_rfl) ?_
  refine Sy.skip ?_
  refine Sy.then_ ?_
  refine Sy.seq ?_
  refine Sy.block ?_
  refine Sy.seq ?_
  refine Sy.region ?_
  refine Sy.step (by kernel_rfl) (.int .i64 11) (Quiet.pure (fun _ => by kernel_rfl)) ?_
  refine Sy.step (by kernel_rfl) (.int .i64 11) (Quiet.pure (fun _ => by kernel_rfl)) ?_
  refine Sy.nil ?_
  refine Sy.then_ ?_
  refine Sy.region ?_
  refine Sy.step (by kernel_rfl) (.slice (some ⟨q11, 0, none⟩) 11 c11) (Quiet.pure (fun _ => by kernel_rfl)) ?_
  refine Sy.step (by kernel_rfl) (.int .i64 11) (Quiet.pure (fun _ => by kernel_rfl)) ?_
  refine Sy.step (by kernel_rfl) (.pointer (some ⟨g1, 11, none⟩)) (Quiet.pure (fun _ => by kernel_rfl)) ?_
  refine Sy.step (by kernel_rfl) (bv (el.getD 11 0)) (Quiet.cell 1 g1 11 45 5 (el.map bv).toArray _ _ rfl (by kernel_rfl) (by kernel_rfl) Try.underlying5 rfl _ (key_at el hel 11 (by decide))) ?_
  refine Sy.make (by kernel_rfl) 5 #[bv (el.getD 11 0)] (fun g => .slice (some ⟨g, 0, none⟩) 1 1) (fun _ => by kernel_rfl) (fun g13 => ?_)
  refine Sy.append (by kernel_rfl) 44 5 _ _ Try.underlying44 info_u8 rfl rfl rfl rfl _ _ rfl 2 q11 11 c11 ((el.take 10).map bv ++ ([bv (el.getD 10 0)] ++ s11)).toArray ((el.take 11).map bv) (by kernel_rfl) (by kernel_rfl) (own_take el 10 hel s11 (by decide)) (own_len el 11 hel (by decide)) (own_size el 10 hel s11 e11 (by decide)) m11 3 g13 0 1 1 5 #[bv (el.getD 11 0)] [bv (el.getD 11 0)] (by kernel_rfl) (by kernel_rfl) (by kernel_rfl) rfl (by intro u hu; simp only [List.mem_cons, List.not_mem_nil, or_false] at hu; subst hu; rfl) (by decide) (fun q12 c12 s12 e12 m12 => ?_)
  refine Sy.step (by kernel_rfl) (.slice (some ⟨q12, 0, none⟩) 12 c12) (Quiet.pure (fun _ => by kernel_rfl)) ?_
  refine Sy.nil ?_
  refine Sy.in_ ?_
  refine Sy.then_ ?_
  refine Sy.region ?_
  refine Sy.step (by kernel_rfl) (.int .i64 12) (Quiet.pure (fun _ => by kernel_rfl)) ?_
  refine Sy.step (by kernel_rfl) (.int .i64 12) (Quiet.pure (fun _ => by kernel_rfl)) ?_
  refine Sy.nil ?_
  refine Sy.again ?_
  refine Sy.tidyR (G := [(1, .slice A n c), (2, .pointer (some ⟨g0, 0, none⟩)), (5, .pointer (some ⟨g1, 0, none⟩)), (6, .slice (some ⟨q12, 0, none⟩) 12 c12), (16, .int .i64 12)]) (M := [(g0, 26, (pcs x y i)), (g1, 45, (el.map bv).toArray), (q12, 5, ((el.take 11).map bv ++ ([bv (el.getD 11 0)] ++ s12)).toArray)]) [true, true, true, false] (by kernel_rfl) (all_cons (by kernel_rfl) (all_cons (by kernel_rfl) (all_cons (by kernel_rfl) (all_cons (by kernel_rfl) (all_cons (by kernel_rfl) all_nil))))) ?_
  refine Sy.round ?_
  refine Sy.seq ?_
  refine Sy.region ?_
  refine Sy.step (by kernel_rfl) (.bool true) (Quiet.pure (fun _ => by kernel_rfl)) ?_
  refine Sy.nil ?_
  refine Sy.then_ ?_
  refine Sy.seq ?_
  refine Sy.cond_t (by kernel_rfl) (by kernel_rfl) ?_
  refine Sy.skip ?_
  refine Sy.then_ ?_
  refine Sy.seq ?_
  refine Sy.block ?_
  refine Sy.seq ?_
  refine Sy.region ?_
  refine Sy.step (by kernel_rfl) (.int .i64 12) (Quiet.pure (fun _ => by kernel_rfl)) ?_
  refine Sy.step (by kernel_rfl) (.int .i64 12) (Quiet.pure (fun _ => by kernel_rfl)) ?_
  refine Sy.nil ?_
  refine Sy.then_ ?_
  refine Sy.region ?_
  refine Sy.step (by kernel_rfl) (.slice (some ⟨q12, 0, none⟩) 12 c12) (Quiet.pure (fun _ => by kernel_rfl)) ?_
  refine Sy.step (by kernel_rfl) (.int .i64 12) (Quiet.pure (fun _ => by kernel_rfl)) ?_
  refine Sy.step (by kernel_rfl) (.pointer (some ⟨g1, 12, none⟩)) (Quiet.pure (fun _ => by kernel_rfl)) ?_
  refine Sy.step (by kernel_rfl) (bv (el.getD 12 0)) (Quiet.cell 1 g1 12 45 5 (el.map bv).toArray _ _ rfl (by kernel_rfl) (by kernel_rfl) Try.underlying5 rfl _ (key_at el hel 12 (by decide))) ?_
  refine Sy.make (by kernel_rfl) 5 #[bv (el.getD 12 0)] (fun g => .slice (some ⟨g, 0, none⟩) 1 1) (fun _ => by kernel_rfl) (fun g14 => ?_)
  refine Sy.append (by kernel_rfl) 44 5 _ _ Try.underlying44 info_u8 rfl rfl rfl rfl _ _ rfl 2 q12 12 c12 ((el.take 11).map bv ++ ([bv (el.getD 11 0)] ++ s12)).toArray ((el.take 12).map bv) (by kernel_rfl) (by kernel_rfl) (own_take el 11 hel s12 (by decide)) (own_len el 12 hel (by decide)) (own_size el 11 hel s12 e12 (by decide)) m12 3 g14 0 1 1 5 #[bv (el.getD 12 0)] [bv (el.getD 12 0)] (by kernel_rfl) (by kernel_rfl) (by kernel_rfl) rfl (by intro u hu; simp only [List.mem_cons, List.not_mem_nil, or_false] at hu; subst hu; rfl) (by decide) (fun q13 c13 s13 e13 m13 => ?_)
  refine Sy.step (by kernel_rfl) (.slice (some ⟨q13, 0, none⟩) 13 c13) (Quiet.pure (fun _ => by kernel_rfl)) ?_
  refine Sy.nil ?_
  refine Sy.in_ ?_
  refine Sy.then_ ?_
  refine Sy.region ?_
  refine Sy.step (by kernel_rfl) (.int .i64 13) (Quiet.pure (fun _ => by kernel_rfl)) ?_
  refine Sy.step (by kernel_rfl) (.int .i64 13) (Quiet.pure (fun _ => by kernel_rfl)) ?_
  refine Sy.nil ?_
  refine Sy.again ?_
  refine Sy.tidyR (G := [(1, .slice A n c), (2, .pointer (some ⟨g0, 0, none⟩)), (5, .pointer (some ⟨g1, 0, none⟩)), (6, .slice (some ⟨q13, 0, none⟩) 13 c13), (16, .int .i64 13)]) (M := [(g0, 26, (pcs x y i)), (g1, 45, (el.map bv).toArray), (q13, 5, ((el.take 12).map bv ++ ([bv (el.getD 12 0)] ++ s13)).toArray)]) [true, true, true, false] (by kernel_rfl) (all_cons (by kernel_rfl) (all_cons (by kernel_rfl) (all_cons (by kernel_rfl) (all_cons (by kernel_rfl) (all_cons (by kernel_rfl) all_nil))))) ?_
  refine Sy.round ?_
  refine Sy.seq ?_
  refine Sy.region ?_
  refine Sy.step (by kernel_rfl) (.bool true) (Quiet.pure (fun _ => by kernel_rfl)) ?_
  refine Sy.nil ?_
  refine Sy.then_ ?_
  refine Sy.seq ?_
  refine Sy.cond_t (by kernel_rfl) (by kernel_rfl) ?_
  refine Sy.skip ?_
  refine Sy.then_ ?_
  refine Sy.seq ?_
  refine Sy.block ?_
  refine Sy.seq ?_
  refine Sy.region ?_
  refine Sy.step (by kernel_rfl) (.int .i64 13) (Quiet.pure (fun _ => by kernel_rfl)) ?_
  refine Sy.step (by kernel_rfl) (.int .i64 13) (Quiet.pure (fun _ => by kernel_rfl)) ?_
  refine Sy.nil ?_
  refine Sy.then_ ?_
  refine Sy.region ?_
  refine Sy.step (by kernel_rfl) (.slice (some ⟨q13, 0, none⟩) 13 c13) (Quiet.pure (fun _ => by kernel_rfl)) ?_
  refine Sy.step (by kernel_rfl) (.int .i64 13) (Quiet.pure (fun _ => by kernel_rfl)) ?_
  refine Sy.step (by kernel_rfl) (.pointer (some ⟨g1, 13, none⟩)) (Quiet.pure (fun _ => by kernel_rfl)) ?_
  refine Sy.step (by kernel_rfl) (bv (el.getD 13 0)) (Quiet.cell 1 g1 13 45 5 (el.map bv).toArray _ _ rfl (by kernel_rfl) (by kernel_rfl) Try.underlying5 rfl _ (key_at el hel 13 (by decide))) ?_
  refine Sy.make (by kernel_rfl) 5 #[bv (el.getD 13 0)] (fun g => .slice (some ⟨g, 0, none⟩) 1 1) (fun _ => by kernel_rfl) (fun g15 => ?_)
  refine Sy.append (by kernel_rfl) 44 5 _ _ Try.underlying44 info_u8 rfl rfl rfl rfl _ _ rfl 2 q13 13 c13 ((el.take 12).map bv ++ ([bv (el.getD 12 0)] ++ s13)).toArray ((el.take 13).map bv) (by kernel_rfl) (by kernel_rfl) (own_take el 12 hel s13 (by decide)) (own_len el 13 hel (by decide)) (own_size el 12 hel s13 e13 (by decide)) m13 3 g15 0 1 1 5 #[bv (el.getD 13 0)] [bv (el.getD 13 0)] (by kernel_rfl) (by kernel_rfl) (by kernel_rfl) rfl (by intro u hu; simp only [List.mem_cons, List.not_mem_nil, or_false] at hu; subst hu; rfl) (by decide) (fun q14 c14 s14 e14 m14 => ?_)
  refine Sy.step (by kernel_rfl) (.slice (some ⟨q14, 0, none⟩) 14 c14) (Quiet.pure (fun _ => by kernel_rfl)) ?_
  refine Sy.nil ?_
  refine Sy.in_ ?_
  refine Sy.then_ ?_
  refine Sy.region ?_
  refine Sy.step (by kernel_rfl) (.int .i64 14) (Quiet.pure (fun _ => by kernel_rfl)) ?_
  refine Sy.step (by kernel_rfl) (.int .i64 14) (Quiet.pure (fun _ => by kernel_rfl)) ?_
  refine Sy.nil ?_
  refine Sy.again ?_
  refine Sy.tidyR (G := [(1, .slice A n c), (2, .pointer (some ⟨g0, 0, none⟩)), (5, .pointer (some ⟨g1, 0, none⟩)), (6, .slice (some ⟨q14, 0, none⟩) 14 c14), (16, .int .i64 14)]) (M := [(g0, 26, (pcs x y i)), (g1, 45, (el.map bv).toArray), (q14, 5, ((el.take 13).map bv ++ ([bv (el.getD 13 0)] ++ s14)).toArray)]) [true, true, true, false] (by kernel_rfl) (all_cons (by kernel_rfl) (all_cons (by kernel_rfl) (all_cons (by kernel_rfl) (all_cons (by kernel_rfl) (all_cons (by kernel_rfl) all_nil))))) ?_
  refine Sy.round ?_
  refine Sy.seq ?_
  refine Sy.region ?_
  refine Sy.step (by kernel_rfl) (.bool true) (Quiet.pure (fun _ => by kernel_rfl)) ?_
  refine Sy.nil ?_
  refine Sy.then_ ?_
  refine Sy.seq ?_
  refine Sy.cond_t (by kernel_rfl) (by kernel_rfl) ?_
  refine Sy.skip ?_
  refine Sy.then_ ?_
  refine Sy.seq ?_
  refine Sy.block ?_
  refine Sy.seq ?_
  refine Sy.region ?_
  refine Sy.step (by kernel_rfl) (.int .i64 14) (Quiet.pure (fun _ => by kernel_rfl)) ?_
  refine Sy.step (by kernel_rfl) (.int .i64 14) (Quiet.pure (fun _ => by kernel_rfl)) ?_
  refine Sy.nil ?_
  refine Sy.then_ ?_
  refine Sy.region ?_
  refine Sy.step (by kernel_rfl) (.slice (some ⟨q14, 0, none⟩) 14 c14) (Quiet.pure (fun _ => by kernel_rfl)) ?_
  refine Sy.step (by kernel_rfl) (.int .i64 14) (Quiet.pure (fun _ => by kernel_rfl)) ?_
  refine Sy.step (by kernel_rfl) (.pointer (some ⟨g1, 14, none⟩)) (Quiet.pure (fun _ => by kernel_rfl)) ?_
  refine Sy.step (by kernel_rfl) (bv (el.getD 14 0)) (Quiet.cell 1 g1 14 45 5 (el.map bv).toArray _ _ rfl (by kernel_rfl) (by kernel_rfl) Try.underlying5 rfl _ (key_at el hel 14 (by decide))) ?_
  refine Sy.make (by kernel_rfl) 5 #[bv (el.getD 14 0)] (fun g => .slice (some ⟨g, 0, none⟩) 1 1) (fun _ => by kernel_rfl) (fun g16 => ?_)
  refine Sy.append (by kernel_rfl) 44 5 _ _ Try.underlying44 info_u8 rfl rfl rfl rfl _ _ rfl 2 q14 14 c14 ((el.take 13).map bv ++ ([bv (el.getD 13 0)] ++ s14)).toArray ((el.take 14).map bv) (by kernel_rfl) (by kernel_rfl) (own_take el 13 hel s14 (by decide)) (own_len el 14 hel (by decide)) (own_size el 13 hel s14 e14 (by decide)) m14 3 g16 0 1 1 5 #[bv (el.getD 14 0)] [bv (el.getD 14 0)] (by kernel_rfl) (by kernel_rfl) (by kernel_rfl) rfl (by intro u hu; simp only [List.mem_cons, List.not_mem_nil, or_false] at hu; subst hu; rfl) (by decide) (fun q15 c15 s15 e15 m15 => ?_)
  refine Sy.step (by kernel_rfl) (.slice (some ⟨q15, 0, none⟩) 15 c15) (Quiet.pure (fun _ => by kernel_rfl)) ?_
  refine Sy.nil ?_
  refine Sy.in_ ?_
  refine Sy.then_ ?_
  refine Sy.region ?_
  refine Sy.step (by kernel_rfl) (.int .i64 15) (Quiet.pure (fun _ => by kernel_rfl)) ?_
  refine Sy.step (by kernel_rfl) (.int .i64 15) (Quiet.pure (fun _ => by kernel_rfl)) ?_
  refine Sy.nil ?_
  refine Sy.again ?_
  refine Sy.tidyR (G := [(1, .slice A n c), (2, .pointer (some ⟨g0, 0, none⟩)), (5, .pointer (some ⟨g1, 0, none⟩)), (6, .slice (some ⟨q15, 0, none⟩) 15 c15), (16, .int .i64 15)]) (M := [(g0, 26, (pcs x y i)), (g1, 45, (el.map bv).toArray), (q15, 5, ((el.take 14).map bv ++ ([bv (el.getD 14 0)] ++ s15)).toArray)]) [true, true, true, false] (by kernel_rfl) (all_cons (by kernel_rfl) (all_cons (by kernel_rfl) (all_cons (by kernel_rfl) (all_cons (by kernel_rfl) (all_cons (by kernel_rfl) all_nil))))) ?_
  refine Sy.round ?_
  refine Sy.seq ?_
  refine Sy.region ?_
  refine Sy.step (by kernel_rfl) (.bool true) (Quiet.pure (fun _ => by kernel_rfl)) ?_
  refine Sy.nil ?_
  refine Sy.then_ ?_
  refine Sy.seq ?_
  refine Sy.cond_t (by kernel_rfl) (by kernel_rfl) ?_
  refine Sy.skip ?_
  refine Sy.then_ ?_
  refine Sy.seq ?_
  refine Sy.block ?_
  refine Sy.seq ?_
  refine Sy.region ?_
  refine Sy.step (by kernel_rfl) (.int .i64 15) (Quiet.pure (fun _ => by kernel_rfl)) ?_
  refine Sy.step (by kernel_rfl) (.int .i64 15) (Quiet.pure (fun _ => by kernel_rfl)) ?_
  refine Sy.nil ?_
  refine Sy.then_ ?_
  refine Sy.region ?_
  refine Sy.step (by kernel_rfl) (.slice (some ⟨q15, 0, none⟩) 15 c15) (Quiet.pure (fun _ => by kernel_rfl)) ?_
  refine Sy.step (by kernel_rfl) (.int .i64 15) (Quiet.pure (fun _ => by kernel_rfl)) ?_
  refine Sy.step (by kernel_rfl) (.pointer (some ⟨g1, 15, none⟩)) (Quiet.pure (fun _ => by kernel_rfl)) ?_
  refine Sy.step (by kernel_rfl) (bv (el.getD 15 0)) (Quiet.cell 1 g1 15 45 5 (el.map bv).toArray _ _ rfl (by kernel_rfl) (by kernel_rfl) Try.underlying5 rfl _ (key_at el hel 15 (by decide))) ?_
  refine Sy.make (by kernel_rfl) 5 #[bv (el.getD 15 0)] (fun g => .slice (some ⟨g, 0, none⟩) 1 1) (fun _ => by kernel_rfl) (fun g17 => ?_)
  refine Sy.append (by kernel_rfl) 44 5 _ _ Try.underlying44 info_u8 rfl rfl rfl rfl _ _ rfl 2 q15 15 c15 ((el.take 14).map bv ++ ([bv (el.getD 14 0)] ++ s15)).toArray ((el.take 15).map bv) (by kernel_rfl) (by kernel_rfl) (own_take el 14 hel s15 (by decide)) (own_len el 15 hel (by decide)) (own_size el 14 hel s15 e15 (by decide)) m15 3 g17 0 1 1 5 #[bv (el.getD 15 0)] [bv (el.getD 15 0)] (by kernel_rfl) (by kernel_rfl) (by kernel_rfl) rfl (by intro u hu; simp only [List.mem_cons, List.not_mem_nil, or_false] at hu; subst hu; rfl) (by decide) (fun q16 c16 s16 e16 m16 => ?_)
  refine Sy.step (by kernel_rfl) (.slice (some ⟨q16, 0, none⟩) 16 c16) (Quiet.pure (fun _ => by kernel_rfl)) ?_
  refine Sy.nil ?_
  refine Sy.in_ ?_
  refine Sy.then_ ?_
  refine Sy.region ?_
  refine Sy.step (by kernel_rfl) (.int .i64 16) (Quiet.pure (fun _ => by kernel_rfl)) ?_
  refine Sy.step (by kernel_rfl) (.int .i64 16) (Quiet.pure (fun _ => by kernel_rfl)) ?_
  refine Sy.nil ?_
  refine Sy.again ?_
  refine Sy.tidyR (G := [(1, .slice A n c), (2, .pointer (some ⟨g0, 0, none⟩)), (5, .pointer (some ⟨g1, 0, none⟩)), (6, .slice (some ⟨q16, 0, none⟩) 16 c16), (16, .int .i64 16)]) (M := [(g0, 26, (pcs x y i)), (g1, 45, (el.map bv).toArray), (q16, 5, ((el.take 15).map bv ++ ([bv (el.getD 15 0)] ++ s16)).toArray)]) [true, true, true, false] (by kernel_rfl) (all_cons (by kernel_rfl) (all_cons (by kernel_rfl) (all_cons (by kernel_rfl) (all_cons (by kernel_rfl) (all_cons (by kernel_rfl) all_nil))))) ?_
  refine Sy.round ?_
  refine Sy.seq ?_
  refine Sy.region ?_
  refine Sy.step (by kernel_rfl) (.bool true) (Quiet.pure (fun _ => by kernel_rfl)) ?_
  refine Sy.nil ?_
  refine Sy.then_ ?_
  refine Sy.seq ?_
  refine Sy.cond_t (by kernel_rfl) (by kernel_rfl) ?_
  refine Sy.skip ?_
  refine Sy.then_ ?_
  refine Sy.seq ?_
  refine Sy.block ?_
  refine Sy.seq ?_
  refine Sy.region ?_
  refine Sy.step (by kernel_rfl) (.int .i64 16) (Quiet.pure (fun _ => by kernel_rfl)) ?_
  refine Sy.step (by kernel_rfl) (.int .i64 16) (Quiet.pure (fun _ => by kernel_rfl)) ?_
  refine Sy.nil ?_
  refine Sy.then_ ?_
  refine Sy.region ?_
  refine Sy.step (by kernel_rfl) (.slice (some ⟨q16, 0, none⟩) 16 c16) (Quiet.pure (fun _ => by kernel_rfl)) ?_
  refine Sy.step (by kernel_rfl) (.int .i64 16) (Quiet.pure (fun _ => by kernel_rfl)) ?_
  refine Sy.step (by kernel_rfl) (.pointer (some ⟨g1, 16, none⟩)) (Quiet.pure (fun _ => by kernel_rfl)) ?_
  refine Sy.step (by kernel_rfl) (bv (el.getD 16 0)) (Quiet.cell 1 g1 16 45 5 (el.map bv).toArray _ _ rfl (by kernel_rfl) (by kernel_rfl) Try.underlying5 rfl _ (key_at el hel 16 (by decide))) ?_
  refine Sy.make (by kernel_rfl) 5 #[bv (el.getD 16 0)] (fun g => .slice (some ⟨g, 0, none⟩) 1 1) (fun _ => by kernel_rfl) (fun g18 => ?_)
  refine Sy.append (by kernel_rfl) 44 5 _ _ Try.underlying44 info_u8 rfl rfl rfl rfl _ _ rfl 2 q16 16 c16 ((el.take 15).map bv ++ ([bv (el.getD 15 0)] ++ s16)).toArray ((el.take 16).map bv) (by kernel_rfl) (by kernel_rfl) (own_take el 15 hel s16 (by decide)) (own_len el 16 hel (by decide)) (own_size el 15 hel s16 e16 (by decide)) m16 3 g18 0 1 1 5 #[bv (el.getD 16 0)] [bv (el.getD 16 0)] (by kernel_rfl) (by kernel_rfl) (by kernel_rfl) rfl (by intro u hu; simp only [List.mem_cons, List.not_mem_nil, or_false] at hu; subst hu; rfl) (by decide) (fun q17 c17 s17 e17 m17 => ?_)
  refine Sy.step (by kernel_rfl) (.slice (some ⟨q17, 0, none⟩) 17 c17) (Quiet.pure (fun _ => by kernel_rfl)) ?_
  refine Sy.nil ?_
  refine Sy.in_ ?_
  refine Sy.then_ ?_
  refine Sy.region ?_
  refine Sy.step (by kernel_rfl) (.int .i64 17) (Quiet.pure (fun _ => by kernel_rfl)) ?_
  refine Sy.step (by kernel_rfl) (.int .i64 17) (Quiet.pure (fun _ => by kernel_rfl)) ?_
  refine Sy.nil ?_
  refine Sy.again ?_
  refine Sy.tidyR (G := [(1, .slice A n c), (2, .pointer (some ⟨g0, 0, none⟩)), (5, .pointer (some ⟨g1, 0, none⟩)), (6, .slice (some ⟨q17, 0, none⟩) 17 c17), (16, .int .i64 17)]) (M := [(g0, 26, (pcs x y i)), (g1, 45, (el.map bv).toArray), (q17, 5, ((el.take 16).map bv ++ ([bv (el.getD 16 0)] ++ s17)).toArray)]) [true, true, true, false] (by kernel_rfl) (all_cons (by kernel_rfl) (all_cons (by kernel_rfl) (all_cons (by kernel_rfl) (all_cons (by kernel_rfl) (all_cons (by kernel_rfl) all_nil))))) ?_
  refine Sy.round ?_
  refine Sy.seq ?_
  refine Sy.region ?_
  refine Sy.step (by kernel_rfl) (.bool true) (Quiet.pure (fun _ => by kernel_rfl)) ?_
  refine Sy.nil ?_
  refine Sy.then_ ?_
  refine Sy.seq ?_
  refine Sy.cond_t (by kernel_rfl) (by kernel_rfl) ?_
  refine Sy.skip ?_
  refine Sy.then_ ?_
  refine Sy.seq ?_
  refine Sy.block ?_
  refine Sy.seq ?_
  refine Sy.region ?_
  refine Sy.step (by kernel_rfl) (.int .i64 17) (Quiet.pure (fun _ => by kernel_rfl)) ?_
  refine Sy.step (by kernel_rfl) (.int .i64 17) (Quiet.pure (fun _ => by kernel_rfl)) ?_
  refine Sy.nil ?_
  refine Sy.then_ ?_
  refine Sy.region ?_
  refine Sy.step (by kernel_rfl) (.slice (some ⟨q17, 0, none⟩) 17 c17) (Quiet.pure (fun _ => by kernel_rfl)) ?_
  refine Sy.step (by kernel_rfl) (.int .i64 17) (Quiet.pure (fun _ => by kernel_rfl)) ?_
  refine Sy.step (by kernel_rfl) (.pointer (some ⟨g1, 17, none⟩)) (Quiet.pure (fun _ => by kernel_rfl)) ?_
  refine Sy.step (by kernel_rfl) (bv (el.getD 17 0)) (Quiet.cell 1 g1 17 45 5 (el.map bv).toArray _ _ rfl (by kernel_rfl) (by kernel_rfl) Try.underlying5 rfl _ (key_at el hel 17 (by decide))) ?_
  refine Sy.make (by kernel_rfl) 5 #[bv (el.getD 17 0)] (fun g => .slice (some ⟨g, 0, none⟩) 1 1) (fun _ => by kernel_rfl) (fun g19 => ?_)
  refine Sy.append (by kernel_rfl) 44 5 _ _ Try.underlying44 info_u8 rfl rfl rfl rfl _ _ rfl 2 q17 17 c17 ((el.take 16).map bv ++ ([bv (el.getD 16 0)] ++ s17)).toArray ((el.take 17).map bv) (by kernel_rfl) (by kernel_rfl) (own_take el 16 hel s17 (by decide)) (own_len el 17 hel (by decide)) (own_size el 16 hel s17 e17 (by decide)) m17 3 g19 0 1 1 5 #[bv (el.getD 17 0)] [bv (el.getD 17 0)] (by kernel_rfl) (by kernel_rfl) (by kernel_rfl) rfl (by intro u hu; simp only [List.mem_cons, List.not_mem_nil, or_false] at hu; subst hu; rfl) (by decide) (fun q18 c18 s18 e18 m18 => ?_)
  refine Sy.step (by kernel_rfl) (.slice (some ⟨q18, 0, none⟩) 18 c18) (Quiet.pure (fun _ => by kernel_rfl)) ?_
  refine Sy.nil ?_
  refine Sy.in_ ?_
  refine Sy.then_ ?_
  refine Sy.region ?_
  refine Sy.step (by kernel_rfl) (.int .i64 18) (Quiet.pure (fun _ => by kernel_rfl)) ?_
  refine Sy.step (by kernel_rfl) (.int .i64 18) (Quiet.pure (fun _ => by kernel_rfl)) ?_
  refine Sy.nil ?_
  refine Sy.again ?_
  refine Sy.tidyR (G := [(1, .slice A n c), (2, .pointer (some ⟨g0, 0, none⟩)), (5, .pointer (some ⟨g1, 0, none⟩)), (6, .slice (some ⟨q18, 0, none⟩) 18 c18), (16, .int .i64 18)]) (M := [(g0, 26, (pcs x y i)), (g1, 45, (el.map bv).toArray), (q18, 5, ((el.take 17).map bv ++ ([bv (el.getD 17 0)] ++ s18)).toArray)]) [true, true, true, false] (by kernel_rfl) (all_cons (by kernel_rfl) (all_cons (by kernel_rfl) (all_cons (by kernel_rfl) (all_cons (by kernel_rfl) (all_cons (by kernel_rfl) all_nil))))) ?_
  refine Sy.round ?_
  refine Sy.seq ?_
  refine Sy.region ?_
  refine Sy.step (by kernel_rfl) (.bool true) (Quiet.pure (fun _ => by kernel_rfl)) ?_
  refine Sy.nil ?_
  refine Sy.then_ ?_
  refine Sy.seq ?_
  refine Sy.cond_t (by kernel_rfl) (by kernel_rfl) ?_
  refine Sy.skip ?_
  refine Sy.then_ ?_
  refine Sy.seq ?_
  refine Sy.block ?_
  refine Sy.seq ?_
  refine Sy.region ?_
  refine Sy.step (by kernel_rfl) (.int .i64 18) (Quiet.pure (fun _ => by kernel_rfl)) ?_
  refine Sy.step (by kernel_rfl) (.int .i64 18) (Quiet.pure (fun _ => by kernel_rfl)) ?_
  refine Sy.nil ?_
  refine Sy.then_ ?_
  refine Sy.region ?_
  refine Sy.step (by kernel_rfl) (.slice (some ⟨q18, 0, none⟩) 18 c18) (Quiet.pure (fun _ => by kernel_rfl)) ?_
  refine Sy.step (by kernel_rfl) (.int .i64 18) (Quiet.pure (fun _ => by kernel_rfl)) ?_
  refine Sy.step (by kernel_rfl) (.pointer (some ⟨g1, 18, none⟩)) (Quiet.pure (fun _ => by kernel_rfl)) ?_
  refine Sy.step (by kernel_rfl) (bv (el.getD 18 0)) (Quiet.cell 1 g1 18 45 5 (el.map bv).toArray _ _ rfl (by kernel_rfl) (by kernel_rfl) Try.underlying5 rfl _ (key_at el hel 18 (by decide))) ?_
  refine Sy.make (by kernel_rfl) 5 #[bv (el.getD 18 0)] (fun g => .slice (some ⟨g, 0, none⟩) 1 1) (fun _ => by kernel_rfl) (fun g20 => ?_)
  refine Sy.append (by kernel_rfl) 44 5 _ _ Try.underlying44 info_u8 rfl rfl rfl rfl _ _ rfl 2 q18 18 c18 ((el.take 17).map bv ++ ([bv (el.getD 17 0)] ++ s18)).toArray ((el.take 18).map bv) (by kernel_rfl) (by kernel_rfl) (own_take el 17 hel s18 (by decide)) (own_len el 18 hel (by decide)) (own_size el 17 hel s18 e18 (by decide)) m18 3 g20 0 1 1 5 #[bv (el.getD 18 0)] [bv (el.getD 18 0)] (by kernel_rfl) (by kernel_rfl) (by kernel_rfl) rfl (by intro u hu; simp only [List.mem_cons, List.not_mem_nil, or_false] at hu; subst hu; rfl) (by decide) (fun q19 c19 s19 e19 m19 => ?_)
  refine Sy.step (by kernel_rfl) (.slice (some ⟨q19, 0, none⟩) 19 c19) (Quiet.pure (fun _ => by kernel_rfl)) ?_
  refine Sy.nil ?_
  refine Sy.in_ ?_
  refine Sy.then_ ?_
  refine Sy.region ?_
  refine Sy.step (by kernel_rfl) (.int .i64 19) (Quiet.pure (fun _ => by kernel_rfl)) ?_
  refine Sy.step (by kernel_rfl) (.int .i64 19) (Quiet.pure (fun _ => by kernel_rfl)) ?_
  refine Sy.nil ?_
  refine Sy.again ?_
  refine Sy.tidyR (G := [(1, .slice A n c), (2, .pointer (some ⟨g0, 0, none⟩)), (5, .pointer (some ⟨g1, 0, none⟩)), (6, .slice (some ⟨q19, 0, none⟩) 19 c19), (16, .int .i64 19)]) (M := [(g0, 26, (pcs x y i)), (g1, 45, (el.map bv).toArray), (q19, 5, ((el.take 18).map bv ++ ([bv (el.getD 18 0)] ++ s19)).toArray)]) [true, true, true, false] (by kernel_rfl) (all_cons (by kernel_rfl) (all_cons (by kernel_rfl) (all_cons (by kernel_rfl) (all_cons (by kernel_rfl) (all_cons (by kernel_rfl) all_nil))))) ?_
  refine Sy.round ?_
  refine Sy.seq ?_
  refine Sy.region ?_
  refine Sy.step (by kernel_rfl) (.bool true) (Quiet.pure (fun _ => by kernel_rfl)) ?_
  refine Sy.nil ?_
  refine Sy.then_ ?_
  refine Sy.seq ?_
  refine Sy.cond_t (by kernel_rfl) (by kernel_rfl) ?_
  refine Sy.skip ?_
  refine Sy.then_ ?_
  refine Sy.seq ?_
  refine Sy.block ?_
  refine Sy.seq ?_
  refine Sy.region ?_
  refine Sy.step (by kernel_rfl) (.int .i64 19) (Quiet.pure (fun _ => by kernel_rfl)) ?_
  refine Sy.step (by kernel_rfl) (.int .i64 19) (Quiet.pure (fun _ => by kernel_rfl)) ?_
  refine Sy.nil ?_
  refine Sy.then_ ?_
  refine Sy.region ?_
  refine Sy.step (by kernel_rfl) (.slice (some ⟨q19, 0, none⟩) 19 c19) (Quiet.pure (fun _ => by kernel_rfl)) ?_
  refine Sy.step (by kernel_rfl) (.int .i64 19) (Quiet.pure (fun _ => by kernel_rfl)) ?_
  refine Sy.step (by kernel_rfl) (.pointer (some ⟨g1, 19, none⟩)) (Quiet.pure (fun _ => by kernel_rfl)) ?_
  refine Sy.step (by kernel_rfl) (bv (el.getD 19 0)) (Quiet.cell 1 g1 19 45 5 (el.map bv).toArray _ _ rfl (by kernel_rfl) (by kernel_rfl) Try.underlying5 rfl _ (key_at el hel 19 (by decide))) ?_
  refine Sy.make (by kernel_rfl) 5 #[bv (el.getD 19 0)] (fun g => .slice (some ⟨g, 0, none⟩) 1 1) (fun _ => by kernel_rfl) (fun g21 => ?_)
  refine Sy.append (by kernel_rfl) 44 5 _ _ Try.underlying44 info_u8 rfl rfl rfl rfl _ _ rfl 2 q19 19 c19 ((el.take 18).map bv ++ ([bv (el.getD 18 0)] ++ s19)).toArray ((el.take 19).map bv) (by kernel_rfl) (by kernel_rfl) (own_take el 18 hel s19 (by decide)) (own_len el 19 hel (by decide)) (own_size el 18 hel s19 e19 (by decide)) m19 3 g21 0 1 1 5 #[bv (el.getD 19 0)] [bv (el.getD 19 0)] (by kernel_rfl) (by kernel_rfl) (by kernel_rfl) rfl (by intro u hu; simp only [List.mem_cons, List.not_mem_nil, or_false] at hu; subst hu; rfl) (by decide) (fun q20 c20 s20 e20 m20 => ?_)
  refine Sy.step (by kernel_rfl) (.slice (some ⟨q20, 0, none⟩) 20 c20) (Quiet.pure (fun _ => by kernel_rfl)) ?_
  refine Sy.nil ?_
  refine Sy.in_ ?_
  refine Sy.then_ ?_
  refine Sy.region ?_
  refine Sy.step (by kernel_rfl) (.int .i64 20) (Quiet.pure (fun _ => by kernel_rfl)) ?_
  refine Sy.step (by kernel_rfl) (.int .i64 20) (Quiet.pure (fun _ => by kernel_rfl)) ?_
  refine Sy.nil ?_
  refine Sy.again ?_
  refine Sy.tidyR (G := [(1, .slice A n c), (2, .pointer (some ⟨g0, 0, none⟩)), (5, .pointer (some ⟨g1, 0, none⟩)), (6, .slice (some ⟨q20, 0, none⟩) 20 c20), (16, .int .i64 20)]) (M := [(g0, 26, (pcs x y i)), (g1, 45, (el.map bv).toArray), (q20, 5, ((el.take 19).map bv ++ ([bv (el.getD 19 0)] ++ s20)).toArray)]) [true, true, true, false] (by kernel_rfl) (all_cons (by kernel_rfl) (all_cons (by kernel_rfl) (all_cons (by kernel_rfl) (all_cons (by kernel_rfl) (all_cons (by kernel_rfl) all_nil))))) ?_
  refine Sy.round ?_
  refine Sy.seq ?_
  refine Sy.region ?_
  refine Sy.step (by kernel_rfl) (.bool true) (Quiet.pure (fun _ => by kernel_rfl)) ?_
  refine Sy.nil ?_
  refine Sy.then_ ?_
  refine Sy.seq ?_
  refine Sy.cond_t (by kernel_rfl) (by kernel_rfl) ?_
  refine Sy.skip ?_
  refine Sy.then_ ?_
  refine Sy.seq ?_
  refine Sy.block ?_
  refine Sy.seq ?_
  refine Sy.region ?_
  refine Sy.step (by kernel_rfl) (.int .i64 20) (Quiet.pure (fun _ => by kernel_rfl)) ?_
  refine Sy.step (by kernel_rfl) (.int .i64 20) (Quiet.pure (fun _ => by kernel_rfl)) ?_
  refine Sy.nil ?_
  refine Sy.then_ ?_
  refine Sy.region ?_
  refine Sy.step (by kernel_rfl) (.slice (some ⟨q20, 0, none⟩) 20 c20) (Quiet.pure (fun _ => by kernel_rfl)) ?_
  refine Sy.step (by kernel_rfl) (.int .i64 20) (Quiet.pure (fun _ => by kernel_rfl)) ?_
  refine Sy.step (by kernel_rfl) (.pointer (some ⟨g1, 20, none⟩)) (Quiet.pure (fun _ => by kernel_rfl)) ?_
  refine Sy.step (by kernel_rfl) (bv (el.getD 20 0)) (Quiet.cell 1 g1 20 45 5 (el.map bv).toArray _ _ rfl (by kernel_rfl) (by kernel_rfl) Try.underlying5 rfl _ (key_at el hel 20 (by decide))) ?_
  refine Sy.make (by kernel_rfl) 5 #[bv (el.getD 20 0)] (fun g => .slice (some ⟨g, 0, none⟩) 1 1) (fun _ => by kernel_rfl) (fun g22 => ?_)
  refine Sy.append (by kernel_rfl) 44 5 _ _ Try.underlying44 info_u8 rfl rfl rfl rfl _ _ rfl 2 q20 20 c20 ((el.take 19).map bv ++ ([bv (el.getD 19 0)] ++ s20)).toArray ((el.take 20).map bv) (by kernel_rfl) (by kernel_rfl) (own_take el 19 hel s20 (by decide)) (own_len el 20 hel (by decide)) (own_size el 19 hel s20 e20 (by decide)) m20 3 g22 0 1 1 5 #[bv (el.getD 20 0)] [bv (el.getD 20 0)] (by kernel_rfl) (by kernel_rfl) (by kernel_rfl) rfl (by intro u hu; simp only [List.mem_cons, List.not_mem_nil, or_false] at hu; subst hu; rfl) (by decide) (fun q21 c21 s21 e21 m21 => ?_)
  refine Sy.step (by kernel_rfl) (.slice (some ⟨q21, 0, none⟩) 21 c21) (Quiet.pure (fun _ => by kernel_rfl)) ?_
  refine Sy.nil ?_
  refine Sy.in_ ?_
  refine Sy.then_ ?_
  refine Sy.region ?_
  refine Sy.step (by kernel_rfl) (.int .i64 21) (Quiet.pure (fun _ => by kernel_rfl)) ?_
  refine Sy.step (by kernel_rfl) (.int .i64 21) (Quiet.pure (fun _ => by kernel_rfl)) ?_
  refine Sy.nil ?_
  refine Sy.again ?_
  refine Sy.tidyR (G := [(1, .slice A n c), (2, .pointer (some ⟨g0, 0, none⟩)), (5, .pointer (some ⟨g1, 0, none⟩)), (6, .slice (some ⟨q21, 0, none⟩) 21 c21), (16, .int .i64 21)]) (M := [(g0, 26, (pcs x y i)), (g1, 45, (el.map bv).toArray), (q21, 5, ((el.take 20).map bv ++ ([bv (el.getD 20 0)] ++ s21)).toArray)]) [true, true, true, false] (by kernel_rfl) (all_cons (by kernel_rfl) (all_cons (by kernel_rfl) (all_cons (by kernel_rfl) (all_cons (by kernel_rfl) (all_cons (by kernel_rfl) all_nil))))) ?_
  refine Sy.round ?_
  refine Sy.seq ?_
  refine Sy.region ?_
  refine Sy.step (by kernel_rfl) (.bool true) (Quiet.pure (fun _ => by kernel_rfl)) ?_
  refine Sy.nil ?_
  refine Sy.then_ ?_
  refine Sy.seq ?_
  refine Sy.cond_t (by kernel_rfl) (by kernel_rfl) ?_
  refine Sy.skip ?_
  refine Sy.then_ ?_
  refine Sy.seq ?_
  refine Sy.block ?_
  refine Sy.seq ?_
  refine Sy.region ?_
  refine Sy.step (by kernel_rfl) (.int .i64 21) (Quiet.pure (fun _ => by kernel_rfl)) ?_
  refine Sy.step (by kernel_rfl) (.int .i64 21) (Quiet.pure (fun _ => by kernel_rfl)) ?_
  refine Sy.nil ?_
  refine Sy.then_ ?_
  refine Sy.region ?_
  refine Sy.step (by kernel_rfl) (.slice (some ⟨q21, 0, none⟩) 21 c21) (Quiet.pure (fun _ => by kernel_rfl)) ?_
  refine Sy.step (by kernel_rfl) (.int .i64 21) (Quiet.pure (fun _ => by kernel_rfl)) ?_
  refine Sy.step (by kernel_rfl) (.pointer (some ⟨g1, 21, none⟩)) (Quiet.pure (fun _ => by kernel_rfl)) ?_
  refine Sy.step (by kernel_rfl) (bv (el.getD 21 0)) (Quiet.cell 1 g1 21 45 5 (el.map bv).toArray _ _ rfl (by kernel_rfl) (by kernel_rfl) Try.underlying5 rfl _ (key_at el hel 21 (by decide))) ?_
  refine Sy.make (by kernel_rfl) 5 #[bv (el.getD 21 0)] (fun g => .slice (some ⟨g, 0, none⟩) 1 1) (fun _ => by kernel_rfl) (fun g23 => ?_)
  refine Sy.append (by kernel_rfl) 44 5 _ _ Try.underlying44 info_u8 rfl rfl rfl rfl _ _ rfl 2 q21 21 c21 ((el.take 20).map bv ++ ([bv (el.getD 20 0)] ++ s21)).toArray ((el.take 21).map bv) (by kernel_rfl) (by kernel_rfl) (own_take el 20 hel s21 (by decide)) (own_len el 21 hel (by decide)) (own_size el 20 hel s21 e21 (by decide)) m21 3 g23 0 1 1 5 #[bv (el.getD 21 0)] [bv (el.getD 21 0)] (by kernel_rfl) (by kernel_rfl) (by kernel_rfl) rfl (by intro u hu; simp only [List.mem_cons, List.not_mem_nil, or_false] at hu; subst hu; rfl) (by decide) (fun q22 c22 s22 e22 m22 => ?_)
  refine Sy.step (by kernel_rfl) (.slice (some ⟨q22, 0, none⟩) 22 c22) (Quiet.pure (fun _ => by kernel_rfl)) ?_
  refine Sy.nil ?_
  refine Sy.in_ ?_
  refine Sy.then_ ?_
  refine Sy.region ?_
  refine Sy.step (by kernel_rfl) (.int .i64 22) (Quiet.pure (fun _ => by kernel_rfl)) ?_
  refine Sy.step (by kernel_rfl) (.int .i64 22) (Quiet.pure (fun _ => by kernel_rfl)) ?_
  refine Sy.nil ?_
  refine Sy.again ?_
  refine Sy.tidyR (G := [(1, .slice A n c), (2, .pointer (some ⟨g0, 0, none⟩)), (5, .pointer (some ⟨g1, 0, none⟩)), (6, .slice (some ⟨q22, 0, none⟩) 22 c22), (16, .int .i64 22)]) (M := [(g0, 26, (pcs x y i)), (g1, 45, (el.map bv).toArray), (q22, 5, ((el.take 21).map bv ++ ([bv (el.getD 21 0)] ++ s22)).toArray)]) [true, true, true, false] (by kernel_rfl) (all_cons (by kernel_rfl) (all_cons (by kernel_rfl) (all_cons (by kernel_rfl) (all_cons (by kernel_rfl) (all_cons (by kernel_rfl) all_nil))))) ?_
  refine Sy.round ?_
  refine Sy.seq ?_
  refine Sy.region ?_
  refine Sy.step (by kernel_rfl) (.bool true) (Quiet.pure (fun _ => by kernel_rfl)) ?_
  refine Sy.nil ?_
  refine Sy.then_ ?_
  refine Sy.seq ?_
  refine Sy.cond_t (by kernel_rfl) (by kernel_rfl) ?_
  refine Sy.skip ?_
  refine Sy.then_ ?_
  refine Sy.seq ?_
  refine Sy.block ?_
  refine Sy.seq ?_
  refine Sy.region ?_
  refine Sy.step (by kernel_rfl) (.int .i64 22) (Quiet.pure (fun _ => by kernel_rfl)) ?_
  refine Sy.step (by kernel_rfl) (.int .i64 22) (Quiet.pure (fun _ => by kernel_rfl)) ?_
  refine Sy.nil ?_
  refine Sy.then_ ?_
  refine Sy.region ?_
  refine Sy.step (by kernel_rfl) (.slice (some ⟨q22, 0, none⟩) 22 c22) (Quiet.pure (fun _ => by kernel_rfl)) ?_
  refine Sy.step (by kernel_rfl) (.int .i64 22) (Quiet.pure (fun _ => by kernel_rfl)) ?_
  refine Sy.step (by kernel_rfl) (.pointer (some ⟨g1, 22, none⟩)) (Quiet.pure (fun _ => by kernel_rfl)) ?_
  refine Sy.step (by kernel_rfl) (bv (el.getD 22 0)) (Quiet.cell 1 g1 22 45 5 (el.map bv).toArray _ _ rfl (by kernel_rfl) (by kernel_rfl) Try.underlying5 rfl _ (key_at el hel 22 (by decide))) ?_
  refine Sy.make (by kernel_rfl) 5 #[bv (el.getD 22 0)] (fun g => .slice (some ⟨g, 0, none⟩) 1 1) (fun _ => by kernel_rfl) (fun g24 => ?_)
  refine Sy.append (by kernel_rfl) 44 5 _ _ Try.underlying44 info_u8 rfl rfl rfl rfl _ _ rfl 2 q22 22 c22 ((el.take 21).map bv ++ ([bv (el.getD 21 0)] ++ s22)).toArray ((el.take 22).map bv) (by kernel_rfl) (by kernel_rfl) (own_take el 21 hel s22 (by decide)) (own_len el 22 hel (by decide)) (own_size el 21 hel s22 e22 (by decide)) m22 3 g24 0 1 1 5 #[bv (el.getD 22 0)] [bv (el.getD 22 0)] (by kernel_rfl) (by kernel_rfl) (by kernel_rfl) rfl (by intro u hu; simp only [List.mem_cons, List.not_mem_nil, or_false] at hu; subst hu; rfl) (by decide) (fun q23 c23 s23 e23 m23 => ?_)
  refine Sy.step (by kernel_rfl) (.slice (some ⟨q23, 0, none⟩) 23 c23) (Quiet.pure (fun _ => by kernel_rfl)) ?_
  refine Sy.nil ?_
  refine Sy.in_ ?_
  refine Sy.then_ ?_
  refine Sy.region ?_
  refine Sy.step (by kernel_rfl) (.int .i64 23) (Quiet.pure (fun _ => by kernel_rfl)) ?_
  refine Sy.step (by kernel_rfl) (.int .i64 23) (Quiet.pure (fun _ => by kernel_rfl)) ?_
  refine Sy.nil ?_
  refine Sy.again ?_
  refine Sy.tidyR (G := [(1, .slice A n c), (2, .pointer (some ⟨g0, 0, none⟩)), (5, .pointer (some ⟨g1, 0, none⟩)), (6, .slice (some ⟨q23, 0, none⟩) 23 c23), (16, .int .i64 23)]) (M := [(g0, 26, (pcs x y i)), (g1, 45, (el.map bv).toArray), (q23, 5, ((el.take 22).map bv ++ ([bv (el.getD 22 0)] ++ s23)).toArray)]) [true, true, true, false] (by kernel_rfl) (all_cons (by kernel_rfl) (all_cons (by kernel_rfl) (all_cons (by kernel_rfl) (all_cons (by kernel_rfl) (all_cons (by kernel_rfl) all_nil))))) ?_
  refine Sy.round ?_
  refine Sy.seq ?_
  refine Sy.region ?_
  refine Sy.step (by kernel_rfl) (.bool true) (Quiet.pure (fun _ => by kernel_rfl)) ?_
  refine Sy.nil ?_
  refine Sy.then_ ?_
  refine Sy.seq ?_
  refine Sy.cond_t (by kernel_rfl) (by kernel_rfl) ?_
  refine Sy.skip ?_
  refine Sy.then_ ?_
  refine Sy.seq ?_
  refine Sy.block ?_
  refine Sy.seq ?_
  refine Sy.region ?_
  refine Sy.step (by kernel_rfl) (.int .i64 23) (Quiet.pure (fun _ => by kernel_rfl)) ?_
  refine Sy.step (by kernel_rfl) (.int .i64 23) (Quiet.pure (fun _ => by kernel_rfl)) ?_
  refine Sy.nil ?_
  refine Sy.then_ ?_
  refine Sy.region ?_
  refine Sy.step (by kernel_rfl) (.slice (some ⟨q23, 0, none⟩) 23 c23) (Quiet.pure (fun _ => by kernel_rfl)) ?_
  refine Sy.step (by kernel_rfl) (.int .i64 23) (Quiet.pure (fun _ => by kernel_rfl)) ?_
  refine Sy.step (by kernel_rfl) (.pointer (some ⟨g1, 23, none⟩)) (Quiet.pure (fun _ => by kernel_rfl)) ?_
  refine Sy.step (by kernel_rfl) (bv (el.getD 23 0)) (Quiet.cell 1 g1 23 45 5 (el.map bv).toArray _ _ rfl (by kernel_rfl) (by kernel_rfl) Try.underlying5 rfl _ (key_at el hel 23 (by decide))) ?_
  refine Sy.make (by kernel_rfl) 5 #[bv (el.getD 23 0)] (fun g => .slice (some ⟨g, 0, none⟩) 1 1) (fun _ => by kernel_rfl) (fun g25 => ?_)
  refine Sy.append (by kernel_rfl) 44 5 _ _ Try.underlying44 info_u8 rfl rfl rfl rfl _ _ rfl 2 q23 23 c23 ((el.take 22).map bv ++ ([bv (el.getD 22 0)] ++ s23)).toArray ((el.take 23).map bv) (by kernel_rfl) (by kernel_rfl) (own_take el 22 hel s23 (by decide)) (own_len el 23 hel (by decide)) (own_size el 22 hel s23 e23 (by decide)) m23 3 g25 0 1 1 5 #[bv (el.getD 23 0)] [bv (el.getD 23 0)] (by kernel_rfl) (by kernel_rfl) (by kernel_rfl) rfl (by intro u hu; simp only [List.mem_cons, List.not_mem_nil, or_false] at hu; subst hu; rfl) (by decide) (fun q24 c24 s24 e24 m24 => ?_)
  refine Sy.step (by kernel_rfl) (.slice (some ⟨q24, 0, none⟩) 24 c24) (Quiet.pure (fun _ => by kernel_rfl)) ?_
  refine Sy.nil ?_
  refine Sy.in_ ?_
  refine Sy.then_ ?_
  refine Sy.region ?_
  refine Sy.step (by kernel_rfl) (.int .i64 24) (Quiet.pure (fun _ => by kernel_rfl)) ?_
  refine Sy.step (by kernel_rfl) (.int .i64 24) (Quiet.pure (fun _ => by kernel_rfl)) ?_
  refine Sy.nil ?_
  refine Sy.again ?_
  refine Sy.tidyR (G := [(1, .slice A n c), (2, .pointer (some ⟨g0, 0, none⟩)), (5, .pointer (some ⟨g1, 0, none⟩)), (6, .slice (some ⟨q24, 0, none⟩) 24 c24), (16, .int .i64 24)]) (M := [(g0, 26, (pcs x y i)), (g1, 45, (el.map bv).toArray), (q24, 5, ((el.take 23).map bv ++ ([bv (el.getD 23 0)] ++ s24)).toArray)]) [true, true, true, false] (by kernel_rfl) (all_cons (by kernel_rfl) (all_cons (by kernel_rfl) (all_cons (by kernel_rfl) (all_cons (by kernel_rfl) (all_cons (by kernel_rfl) all_nil))))) ?_
  refine Sy.round ?_
  refine Sy.seq ?_
  refine Sy.region ?_
  refine Sy.step (by kernel_rfl) (.bool true) (Quiet.pure (fun _ => by kernel_rfl)) ?_
  refine Sy.nil ?_
  refine Sy.then_ ?_
  refine Sy.seq ?_
  refine Sy.cond_t (by kernel_rfl) (by kernel_rfl) ?_
  refine Sy.skip ?_
  refine Sy.then_ ?_
  refine Sy.seq ?_
  refine Sy.block ?_
  refine Sy.seq ?_
  refine Sy.region ?_
  refine Sy.step (by kernel_rfl) (.int .i64 24) (Quiet.pure (fun _ => by kernel_rfl)) ?_
  refine Sy.step (by kernel_rfl) (.int .i64 24) (Quiet.pure (fun _ => by kernel_rfl)) ?_
  refine Sy.nil ?_
  refine Sy.then_ ?_
  refine Sy.region ?_
  refine Sy.step (by kernel_rfl) (.slice (some ⟨q24, 0, none⟩) 24 c24) (Quiet.pure (fun _ => by kernel_rfl)) ?_
  refine Sy.step (by kernel_rfl) (.int .i64 24) (Quiet.pure (fun _ => by kernel_rfl)) ?_
  refine Sy.step (by kernel_rfl) (.pointer (some ⟨g1, 24, none⟩)) (Quiet.pure (fun _ => by kernel_rfl)) ?_
  refine Sy.step (by kernel_rfl) (bv (el.getD 24 0)) (Quiet.cell 1 g1 24 45 5 (el.map bv).toArray _ _ rfl (by kernel_rfl) (by kernel_rfl) Try.underlying5 rfl _ (key_at el hel 24 (by decide))) ?_
  refine Sy.make (by kernel_rfl) 5 #[bv (el.getD 24 0)] (fun g => .slice (some ⟨g, 0, none⟩) 1 1) (fun _ => by kernel_rfl) (fun g26 => ?_)
  refine Sy.append (by kernel_rfl) 44 5 _ _ Try.underlying44 info_u8 rfl rfl rfl rfl _ _ rfl 2 q24 24 c24 ((el.take 23).map bv ++ ([bv (el.getD 23 0)] ++ s24)).toArray ((el.take 24).map bv) (by kernel_rfl) (by kernel_rfl) (own_take el 23 hel s24 (by decide)) (own_len el 24 hel (by decide)) (own_size el 23 hel s24 e24 (by decide)) m24 3 g26 0 1 1 5 #[bv (el.getD 24 0)] [bv (el.getD 24 0)] (by kernel_rfl) (by kernel_rfl) (by kernel_rfl) rfl (by intro u hu; simp only [List.mem_cons, List.not_mem_nil, or_false] at hu; subst hu; rfl) (by decide) (fun q25 c25 s25 e25 m25 => ?_)
  refine Sy.step (by kernel_rfl) (.slice (some ⟨q25, 0, none⟩) 25 c25) (Quiet.pure (fun _ => by kernel_rfl)) ?_
  refine Sy.nil ?_
  refine Sy.in_ ?_
  refine Sy.then_ ?_
  refine Sy.region ?_
  refine Sy.step (by kernel_rfl) (.int .i64 25) (Quiet.pure (fun _ => by kernel_rfl)) ?_
  refine Sy.step (by kernel_rfl) (.int .i64 25) (Quiet.pure (fun _ => by kernel_rfl)) ?_
  refine Sy.nil ?_
  refine Sy.again ?_
  refine Sy.tidyR (G := [(1, .slice A n c), (2, .pointer (some ⟨g0, 0, none⟩)), (5, .pointer (some ⟨g1, 0, none⟩)), (6, .slice (some ⟨q25, 0, none⟩) 25 c25), (16, .int .i64 25)]) (M := [(g0, 26, (pcs x y i)), (g1, 45, (el.map bv).toArray), (q25, 5, ((el.take 24).map bv ++ ([bv (el.getD 24 0)] ++ s25)).toArray)]) [true, true, true, false] (by kernel_rfl) (all_cons (by kernel_rfl) (all_cons (by kernel_rfl) (all_cons (by kernel_rfl) (all_cons (by kernel_rfl) (all_cons (by kernel_rfl) all_nil))))) ?_
  refine Sy.round ?_
  refine Sy.seq ?_
  refine Sy.region ?_
  refine Sy.step (by kernel_rfl) (.bool true) (Quiet.pure (fun _ => by kernel_rfl)) ?_
  refine Sy.nil ?_
  refine Sy.then_ ?_
  refine Sy.seq ?_
  refine Sy.cond_t (by kernel_rfl) (by kernel_rfl) ?_
  refine Sy.skip ?_
  refine Sy.then_ ?_
  refine Sy.seq ?_
  refine Sy.block ?_
  refine Sy.seq ?_
  refine Sy.region ?_
  refine Sy.step (by kernel_rfl) (.int .i64 25) (Quiet.pure (fun _ => by kernel_rfl)) ?_
  refine Sy.step (by kernel_rfl) (.int .i64 25) (Quiet.pure (fun _ => by kernel_rfl)) ?_
  refine Sy.nil ?_
  refine Sy.then_ ?_
  refine Sy.region ?_
  refine Sy.step (by kernel_rfl) (.slice (some ⟨q25, 0, none⟩) 25 c25) (Quiet.pure (fun _ => by kernel_rfl)) ?_
  refine Sy.step (by kernel_rfl) (.int .i64 25) (Quiet.pure (fun _ => by kernel_rfl)) ?_
  refine Sy.step (by kernel_rfl) (.pointer (some ⟨g1, 25, none⟩)) (Quiet.pure (fun _ => by kernel_rfl)) ?_
  refine Sy.step (by kernel_rfl) (bv (el.getD 25 0)) (Quiet.cell 1 g1 25 45 5 (el.map bv).toArray _ _ rfl (by kernel_rfl) (by kernel_rfl) Try.underlying5 rfl _ (key_at el hel 25 (by decide))) ?_
  refine Sy.make (by kernel_rfl) 5 #[bv (el.getD 25 0)] (fun g => .slice (some ⟨g, 0, none⟩) 1 1) (fun _ => by kernel_rfl) (fun g27 => ?_)
  refine Sy.append (by kernel_rfl) 44 5 _ _ Try.underlying44 info_u8 rfl rfl rfl rfl _ _ rfl 2 q25 25 c25 ((el.take 24).map bv ++ ([bv (el.getD 24 0)] ++ s25)).toArray ((el.take 25).map bv) (by kernel_rfl) (by kernel_rfl) (own_take el 24 hel s25 (by decide)) (own_len el 25 hel (by decide)) (own_size el 24 hel s25 e25 (by decide)) m25 3 g27 0 1 1 5 #[bv (el.getD 25 0)] [bv (el.getD 25 0)] (by kernel_rfl) (by kernel_rfl) (by kernel_rfl) rfl (by intro u hu; simp only [List.mem_cons, List.not_mem_nil, or_false] at hu; subst hu; rfl) (by decide) (fun q26 c26 s26 e26 m26 => ?_)
  refine Sy.step (by kernel_rfl) (.slice (some ⟨q26, 0, none⟩) 26 c26) (Quiet.pure (fun _ => by kernel_rfl)) ?_
  refine Sy.nil ?_
  refine Sy.in_ ?_
  refine Sy.then_ ?_
  refine Sy.region ?_
  refine Sy.step (by kernel_rfl) (.int .i64 26) (Quiet.pure (fun _ => by kernel_rfl)) ?_
  refine Sy.step (by kernel_rfl) (.int .i64 26) (Quiet.pure (fun _ => by kernel_rfl)) ?_
  refine Sy.nil ?_
  refine Sy.again ?_
  refine Sy.tidyR (G := [(1, .slice A n c), (2, .pointer (some ⟨g0, 0, none⟩)), (5, .pointer (some ⟨g1, 0, none⟩)), (6, .slice (some ⟨q26, 0, none⟩) 26 c26), (16, .int .i64 26)]) (M := [(g0, 26, (pcs x y i)), (g1, 45, (el.map bv).toArray), (q26, 5, ((el.take 25).map bv ++ ([bv (el.getD 25 0)] ++ s26)).toArray)]) [true, true, true, false] (by kernel_rfl) (all_cons (by kernel_rfl) (all_cons (by kernel_rfl) (all_cons (by kernel_rfl) (all_cons (by kernel_rfl) (all_cons (by kernel_rfl) all_nil))))) ?_
  refine Sy.round ?_
  refine Sy.seq ?_
  refine Sy.region ?_
  refine Sy.step (by kernel_rfl) (.bool true) (Quiet.pure (fun _ => by kernel_rfl)) ?_
  refine Sy.nil ?_
  refine Sy.then_ ?_
  refine Sy.seq ?_
  refine Sy.cond_t (by kernel_rfl) (by kernel_rfl) ?_
  refine Sy.skip ?_
  refine Sy.then_ ?_
  refine Sy.seq ?_
  refine Sy.block ?_
  refine Sy.seq ?_
  refine Sy.region ?_
  refine Sy.step (by kernel_rfl) (.int .i64 26) (Quiet.pure (fun _ => by kernel_rfl)) ?_
  refine Sy.step (by kernel_rfl) (.int .i64 26) (Quiet.pure (fun _ => by kernel_rfl)) ?_
  refine Sy.nil ?_
  refine Sy.then_ ?_
  refine Sy.region ?_
  refine Sy.step (by kernel_rfl) (.slice (some ⟨q26, 0, none⟩) 26 c26) (Quiet.pure (fun _ => by kernel_rfl)) ?_
  refine Sy.step (by kernel_rfl) (.int .i64 26) (Quiet.pure (fun _ => by kernel_rfl)) ?_
  refine Sy.step (by kernel_rfl) (.pointer (some ⟨g1, 26, none⟩)) (Quiet.pure (fun _ => by kernel_rfl)) ?_
  refine Sy.step (by kernel_rfl) (bv (el.getD 26 0)) (Quiet.cell 1 g1 26 45 5 (el.map bv).toArray _ _ rfl (by kernel_rfl) (by kernel_rfl) Try.underlying5 rfl _ (key_at el hel 26 (by decide))) ?_
  refine Sy.make (by kernel_rfl) 5 #[bv (el.getD 26 0)] (fun g => .slice (some ⟨g, 0, none⟩) 1 1) (fun _ => by kernel_rfl) (fun g28 => ?_)
  refine Sy.append (by kernel_rfl) 44 5 _ _ Try.underlying44 info_u8 rfl rfl rfl rfl _ _ rfl 2 q26 26 c26 ((el.take 25).map bv ++ ([bv (el.getD 25 0)] ++ s26)).toArray ((el.take 26).map bv) (by kernel_rfl) (by kernel_rfl) (own_take el 25 hel s26 (by decide)) (own_len el 26 hel (by decide)) (own_size el 25 hel s26 e26 (by decide)) m26 3 g28 0 1 1 5 #[bv (el.getD 26 0)] [bv (el.getD 26 0)] (by kernel_rfl) (by kernel_rfl) (by kernel_rfl) rfl (by intro u hu; simp only [List.mem_cons, List.not_mem_nil, or_false] at hu; subst hu; rfl) (by decide) (fun q27 c27 s27 e27 m27 => ?_)
  refine Sy.step (by kernel_rfl) (.slice (some ⟨q27, 0, none⟩) 27 c27) (Quiet.pure (fun _ => by kernel_rfl)) ?_
  refine Sy.nil ?_
  refine Sy.in_ ?_
  refine Sy.then_ ?_
  refine Sy.region ?_
  refine Sy.step (by kernel_rfl) (.int .i64 27) (Quiet.pure (fun _ => by kernel_rfl)) ?_
  refine Sy.step (by kernel_rfl) (.int .i64 27) (Quiet.pure (fun _ => by kernel_rfl)) ?_
  refine Sy.nil ?_
  refine Sy.again ?_
  refine Sy.tidyR (G := [(1, .slice A n c), (2, .pointer (some ⟨g0, 0, none⟩)), (5, .pointer (some ⟨g1, 0, none⟩)), (6, .slice (some ⟨q27, 0, none⟩) 27 c27), (16, .int .i64 27)]) (M := [(g0, 26, (pcs x y i)), (g1, 45, (el.map bv).toArray), (q27, 5, ((el.take 26).map bv ++ ([bv (el.getD 26 0)] ++ s27)).toArray)]) [true, true, true, false] (by kernel_rfl) (all_cons (by kernel_rfl) (all_cons (by kernel_rfl) (all_cons (by kernel_rfl) (all_cons (by kernel_rfl) (all_cons (by kernel_rfl) all_nil))))) ?_
  refine Sy.round ?_
  refine Sy.seq ?_
  refine Sy.region ?_
  refine Sy.step (by kernel_rfl) (.bool true) (Quiet.pure (fun _ => by kernel_rfl)) ?_
  refine Sy.nil ?_
  refine Sy.then_ ?_
  refine Sy.seq ?_
  refine Sy.cond_t (by kernel_rfl) (by kernel_rfl) ?_
  refine Sy.skip ?_
  refine Sy.then_ ?_
  refine Sy.seq ?_
  refine Sy.block ?_
  refine Sy.seq ?_
  refine Sy.region ?_
  refine Sy.step (by kernel_rfl) (.int .i64 27) (Quiet.pure (fun _ => by kernel_rfl)) ?_
  refine Sy.step (by kernel_rfl) (.int .i64 27) (Quiet.pure (fun _ => by kernel_rfl)) ?_
  refine Sy.nil ?_
  refine Sy.then_ ?_
  refine Sy.region ?_
  refine Sy.step (by kernel_rfl) (.slice (some ⟨q27, 0, none⟩) 27 c27) (Quiet.pure (fun _ => by kernel_rfl)) ?_
  refine Sy.step (by kernel_rfl) (.int .i64 27) (Quiet.pure (fun _ => by kernel_rfl)) ?_
  refine Sy.step (by kernel_rfl) (.pointer (some ⟨g1, 27, none⟩)) (Quiet.pure (fun _ => by kernel_rfl)) ?_
  refine Sy.step (by kernel_rfl) (bv (el.getD 27 0)) (Quiet.cell 1 g1 27 45 5 (el.map bv).toArray _ _ rfl (by kernel_rfl) (by kernel_rfl) Try.underlying5 rfl _ (key_at el hel 27 (by decide))) ?_
  refine Sy.make (by kernel_rfl) 5 #[bv (el.getD 27 0)] (fun g => .slice (some ⟨g, 0, none⟩) 1 1) (fun _ => by kernel_rfl) (fun g29 => ?_)
  refine Sy.append (by kernel_rfl) 44 5 _ _ Try.underlying44 info_u8 rfl rfl rfl rfl _ _ rfl 2 q27 27 c27 ((el.take 26).map bv ++ ([bv (el.getD 26 0)] ++ s27)).toArray ((el.take 27).map bv) (by kernel_rfl) (by kernel_rfl) (own_take el 26 hel s27 (by decide)) (own_len el 27 hel (by decide)) (own_size el 26 hel s27 e27 (by decide)) m27 3 g29 0 1 1 5 #[bv (el.getD 27 0)] [bv (el.getD 27 0)] (by kernel_rfl) (by kernel_rfl) (by kernel_rfl) rfl (by intro u hu; simp only [List.mem_cons, List.not_mem_nil, or_false] at hu; subst hu; rfl) (by decide) (fun q28 c28 s28 e28 m28 => ?_)
  refine Sy.step (by kernel_rfl) (.slice (some ⟨q28, 0, none⟩) 28 c28) (Quiet.pure (fun _ => by kernel_rfl)) ?_
  refine Sy.nil ?_
  refine Sy.in_ ?_
  refine Sy.then_ ?_
  refine Sy.region ?_
  refine Sy.step (by kernel_rfl) (.int .i64 28) (Quiet.pure (fun _ => by kernel_rfl)) ?_
  refine Sy.step (by kernel_rfl) (.int .i64 28) (Quiet.pure (fun _ => by kernel_rfl)) ?_
  refine Sy.nil ?_
  refine Sy.again ?_
  refine Sy.tidyR (G := [(1, .slice A n c), (2, .pointer (some ⟨g0, 0, none⟩)), (5, .pointer (some ⟨g1, 0, none⟩)), (6, .slice (some ⟨q28, 0, none⟩) 28 c28), (16, .int .i64 28)]) (M := [(g0, 26, (pcs x y i)), (g1, 45, (el.map bv).toArray), (q28, 5, ((el.take 27).map bv ++ ([bv (el.getD 27 0)] ++ s28)).toArray)]) [true, true, true, false] (by kernel_rfl) (all_cons (by kernel_rfl) (all_cons (by kernel_rfl) (all_cons (by kernel_rfl) (all_cons (by kernel_rfl) (all_cons (by kernel_rfl) all_nil))))) ?_
  refine Sy.round ?_
  refine Sy.seq ?_
  refine Sy.region ?_
  refine Sy.step (by kernel_rfl) (.bool true) (Quiet.pure (fun _ => by kernel_rfl)) ?_
  refine Sy.nil ?_
  refine Sy.then_ ?_
  refine Sy.seq ?_
  refine Sy.cond_t (by kernel_rfl) (by kernel_rfl) ?_
  refine Sy.skip ?_
  refine Sy.then_ ?_
  refine Sy.seq ?_
  refine Sy.block ?_
  refine Sy.seq ?_
  refine Sy.region ?_
  refine Sy.step (by kernel_rfl) (.int .i64 28) (Quiet.pure (fun _ => by kernel_rfl)) ?_
  refine Sy.step (by kernel_rfl) (.int .i64 28) (Quiet.pure (fun _ => by kernel_rfl)) ?_
  refine Sy.nil ?_
  refine Sy.then_ ?_
  refine Sy.region ?_
  refine Sy.step (by kernel_rfl) (.slice (some ⟨q28, 0, none⟩) 28 c28) (Quiet.pure (fun _ => by kernel_rfl)) ?_
  refine Sy.step (by kernel_rfl) (.int .i64 28) (Quiet.pure (fun _ => by kernel_rfl)) ?_
  refine Sy.step (by kernel_rfl) (.pointer (some ⟨g1, 28, none⟩)) (Quiet.pure (fun _ => by kernel_rfl)) ?_
  refine Sy.step (by kernel_rfl) (bv (el.getD 28 0)) (Quiet.cell 1 g1 28 45 5 (el.map bv).toArray _ _ rfl (by kernel_rfl) (by kernel_rfl) Try.underlying5 rfl _ (key_at el hel 28 (by decide))) ?_
  refine Sy.make (by kernel_rfl) 5 #[bv (el.getD 28 0)] (fun g => .slice (some ⟨g, 0, none⟩) 1 1) (fun _ => by kernel_rfl) (fun g30 => ?_)
  refine Sy.append (by kernel_rfl) 44 5 _ _ Try.underlying44 info_u8 rfl rfl rfl rfl _ _ rfl 2 q28 28 c28 ((el.take 27).map bv ++ ([bv (el.getD 27 0)] ++ s28)).toArray ((el.take 28).map bv) (by kernel_rfl) (by kernel_rfl) (own_take el 27 hel s28 (by decide)) (own_len el 28 hel (by decide)) (own_size el 27 hel s28 e28 (by decide)) m28 3 g30 0 1 1 5 #[bv (el.getD 28 0)] [bv (el.getD 28 0)] (by kernel_rfl) (by kernel_rfl) (by kernel_rfl) rfl (by intro u hu; simp only [List.mem_cons, List.not_mem_nil, or_false] at hu; subst hu; rfl) (by decide) (fun q29 c29 s29 e29 m29 => ?_)
  refine Sy.step (by kernel_rfl) (.slice (some ⟨q29, 0, none⟩) 29 c29) (Quiet.pure (fun _ => by kernel_rfl)) ?_
  refine Sy.nil ?_
  refine Sy.in_ ?_
  refine Sy.then_ ?_
  refine Sy.region ?_
  refine Sy.step (by kernel_rfl) (.int .i64 29) (Quiet.pure (fun _ => by kernel_rfl)) ?_
  refine Sy.step (by kernel_rfl) (.int .i64 29) (Quiet.pure (fun _ => by kernel_rfl)) ?_
  refine Sy.nil ?_
  refine Sy.again ?_
  refine Sy.tidyR (G := [(1, .slice A n c), (2, .pointer (some ⟨g0, 0, none⟩)), (5, .pointer (some ⟨g1, 0, none⟩)), (6, .slice (some ⟨q29, 0, none⟩) 29 c29), (16, .int .i64 29)]) (M := [(g0, 26, (pcs x y i)), (g1, 45, (el.map bv).toArray), (q29, 5, ((el.take 28).map bv ++ ([bv (el.getD 28 0)] ++ s29)).toArray)]) [true, true, true, false] (by kernel_rfl) (all_cons (by kernel_rfl) (all_cons (by kernel_rfl) (all_cons (by kernel_rfl) (all_cons (by kernel_rfl) (all_cons (by kernel_rfl) all_nil))))) ?_
  refine Sy.round ?_
  refine Sy.seq ?_
  refine Sy.region ?_
  refine Sy.step (by kernel_rfl) (.bool true) (Quiet.pure (fun _ => by kernel_rfl)) ?_
  refine Sy.nil ?_
  refine Sy.then_ ?_
  refine Sy.seq ?_
  refine Sy.cond_t (by kernel_rfl) (by kernel_rfl) ?_
  refine Sy.skip ?_
  refine Sy.then_ ?_
  refine Sy.seq ?_
  refine Sy.block ?_
  refine Sy.seq ?_
  refine Sy.region ?_
  refine Sy.step (by kernel_rfl) (.int .i64 29) (Quiet.pure (fun _ => by kernel_rfl)) ?_
  refine Sy.step (by kernel_rfl) (.int .i64 29) (Quiet.pure (fun _ => by kernel_rfl)) ?_
  refine Sy.nil ?_
  refine Sy.then_ ?_
  refine Sy.region ?_
  refine Sy.step (by kernel_rfl) (.slice (some ⟨q29, 0, none⟩) 29 c29) (Quiet.pure (fun _ => by kernel_rfl)) ?_
  refine Sy.step (by kernel_rfl) (.int .i64 29) (Quiet.pure (fun _ => by kernel_rfl)) ?_
  refine Sy.step (by kernel_rfl) (.pointer (some ⟨g1, 29, none⟩)) (Quiet.pure (fun _ => by kernel_rfl)) ?_
  refine Sy.step (by kernel_rfl) (bv (el.getD 29 0)) (Quiet.cell 1 g1 29 45 5 (el.map bv).toArray _ _ rfl (by kernel_rfl) (by kernel_rfl) Try.underlying5 rfl _ (key_at el hel 29 (by decide))) ?_
  refine Sy.make (by kernel_rfl) 5 #[bv (el.getD 29 0)] (fun g => .slice (some ⟨g, 0, none⟩) 1 1) (fun _ => by kernel_rfl) (fun g31 => ?_)
  refine Sy.append (by kernel_rfl) 44 5 _ _ Try.underlying44 info_u8 rfl rfl rfl rfl _ _ rfl 2 q29 29 c29 ((el.take 28).map bv ++ ([bv (el.getD 28 0)] ++ s29)).toArray ((el.take 29).map bv) (by kernel_rfl) (by kernel_rfl) (own_take el 28 hel s29 (by decide)) (own_len el 29 hel (by decide)) (own_size el 28 hel s29 e29 (by decide)) m29 3 g31 0 1 1 5 #[bv (el.getD 29 0)] [bv (el.getD 29 0)] (by kernel_rfl) (by kernel_rfl) (by kernel_rfl) rfl (by intro u hu; simp only [List.mem_cons, List.not_mem_nil, or_false] at hu; subst hu; rfl) (by decide) (fun q30 c30 s30 e30 m30 => ?_)
  refine Sy.step (by kernel_rfl) (.slice (some ⟨q30, 0, none⟩) 30 c30) (Quiet.pure (fun _ => by kernel_rfl)) ?_
  refine Sy.nil ?_
  refine Sy.in_ ?_
  refine Sy.then_ ?_
  refine Sy.region ?_
  refine Sy.step (by kernel_rfl) (.int .i64 30) (Quiet.pure (fun _ => by kernel_rfl)) ?_
  refine Sy.step (by kernel_rfl) (.int .i64 30) (Quiet.pure (fun _ => by kernel_rfl)) ?_
  refine Sy.nil ?_
  refine Sy.again ?_
  refine Sy.tidyR (G := [(1, .slice A n c), (2, .pointer (some ⟨g0, 0, none⟩)), (5, .pointer (some ⟨g1, 0, none⟩)), (6, .slice (some ⟨q30, 0, none⟩) 30 c30), (16, .int .i64 30)]) (M := [(g0, 26, (pcs x y i)), (g1, 45, (el.map bv).toArray), (q30, 5, ((el.take 29).map bv ++ ([bv (el.getD 29 0)] ++ s30)).toArray)]) [true, true, true, false] (by kernel_rfl) (all_cons (by kernel_rfl) (all_cons (by kernel_rfl) (all_cons (by kernel_rfl) (all_cons (by kernel_rfl) (all_cons (by kernel_rfl) all_nil))))) ?_
  refine Sy.round ?_
  refine Sy.seq ?_
  refine Sy.region ?_
  refine Sy.step (by kernel_rfl) (.bool true) (Quiet.pure (fun _ => by kernel_rfl)) ?_
  refine Sy.nil ?_
  refine Sy.then_ ?_
  refine Sy.seq ?_
  refine Sy.cond_t (by kernel_rfl) (by kernel_rfl) ?_
  refine Sy.skip ?_
  refine Sy.then_ ?_
  refine Sy.seq ?_
  refine Sy.block ?_
  refine Sy.seq ?_
  refine Sy.region ?_
  refine Sy.step (by kernel_rfl) (.int .i64 30) (Quiet.pure (fun _ => by kernel_rfl)) ?_
  refine Sy.step (by kernel_rfl) (.int .i64 30) (Quiet.pure (fun _ => by kernel_rfl)) ?_
  refine Sy.nil ?_
  refine Sy.then_ ?_
  refine Sy.region ?_
  refine Sy.step (by kernel_rfl) (.slice (some ⟨q30, 0, none⟩) 30 c30) (Quiet.pure (fun _ => by kernel_rfl)) ?_
  refine Sy.step (by kernel_rfl) (.int .i64 30) (Quiet.pure (fun _ => by kernel_rfl)) ?_
  refine Sy.step (by kernel_rfl) (.pointer (some ⟨g1, 30, none⟩)) (Quiet.pure (fun _ => by kernel_rfl)) ?_
  refine Sy.step (by kernel_rfl) (bv (el.getD 30 0)) (Quiet.cell 1 g1 30 45 5 (el.map bv).toArray _ _ rfl (by kernel_rfl) (by kernel_rfl) Try.underlying5 rfl _ (key_at el hel 30 (by decide))) ?_
  refine Sy.make (by kernel_rfl) 5 #[bv (el.getD 30 0)] (fun g => .slice (some ⟨g, 0, none⟩) 1 1) (fun _ => by kernel_rfl) (fun g32 => ?_)
  refine Sy.append (by kernel_rfl) 44 5 _ _ Try.underlying44 info_u8 rfl rfl rfl rfl _ _ rfl 2 q30 30 c30 ((el.take 29).map bv ++ ([bv (el.getD 29 0)] ++ s30)).toArray ((el.take 30).map bv) (by kernel_rfl) (by kernel_rfl) (own_take el 29 hel s30 (by decide)) (own_len el 30 hel (by decide)) (own_size el 29 hel s30 e30 (by decide)) m30 3 g32 0 1 1 5 #[bv (el.getD 30 0)] [bv (el.getD 30 0)] (by kernel_rfl) (by kernel_rfl) (by kernel_rfl) rfl (by intro u hu; simp only [List.mem_cons, List.not_mem_nil, or_false] at hu; subst hu; rfl) (by decide) (fun q31 c31 s31 e31 m31 => ?_)
  refine Sy.step (by kernel_rfl) (.slice (some ⟨q31, 0, none⟩) 31 c31) (Quiet.pure (fun _ => by kernel_rfl)) ?_
  refine Sy.nil ?_
  refine Sy.in_ ?_
  refine Sy.then_ ?_
  refine Sy.region ?_
  refine Sy.step (by kernel_rfl) (.int .i64 31) (Quiet.pure (fun _ => by kernel_rfl)) ?_
  refine Sy.step (by kernel_rfl) (.int .i64 31) (Quiet.pure (fun _ => by kernel_rfl)) ?_
  refine Sy.nil ?_
  refine Sy.again ?_
  refine Sy.tidyR (G := [(1, .slice A n c), (2, .pointer (some ⟨g0, 0, none⟩)), (5, .pointer (some ⟨g1, 0, none⟩)), (6, .slice (some ⟨q31, 0, none⟩) 31 c31), (16, .int .i64 31)]) (M := [(g0, 26, (pcs x y i)), (g1, 45, (el.map bv).toArray), (q31, 5, ((el.take 30).map bv ++ ([bv (el.getD 30 0)] ++ s31)).toArray)]) [true, true, true, false] (by kernel_rfl) (all_cons (by kernel_rfl) (all_cons (by kernel_rfl) (all_cons (by kernel_rfl) (all_cons (by kernel_rfl) (all_cons (by kernel_rfl) all_nil))))) ?_
  refine Sy.round ?_
  refine Sy.seq ?_
  refine Sy.region ?_
  refine Sy.step (by kernel_rfl) (.bool true) (Quiet.pure (fun _ => by kernel_rfl)) ?_
  refine Sy.nil ?_
  refine Sy.then_ ?_
  refine Sy.seq ?_
  refine Sy.cond_t (by kernel_rfl) (by kernel_rfl) ?_
  refine Sy.skip ?_
  refine Sy.then_ ?_
  refine Sy.seq ?_
  refine Sy.block ?_
  refine Sy.seq ?_
  refine Sy.region ?_
  refine Sy.step (by kernel_rfl) (.int .i64 31) (Quiet.pure (fun _ => by kernel_rfl)) ?_
  refine Sy.step (by kernel_rfl) (.int .i64 31) (Quiet.pure (fun _ => by kernel_rfl)) ?_
  refine Sy.nil ?_
  refine Sy.then_ ?_
  refine Sy.region ?_
  refine Sy.step (by kernel_rfl) (.slice (some ⟨q31, 0, none⟩) 31 c31) (Quiet.pure (fun _ => by kernel_rfl)) ?_
  refine Sy.step (by kernel_rfl) (.int .i64 31) (Quiet.pure (fun _ => by kernel_rfl)) ?_
  refine Sy.step (by kernel_rfl) (.pointer (some ⟨g1, 31, none⟩)) (Quiet.pure (fun _ => by kernel_rfl)) ?_
  refine Sy.step (by kernel_rfl) (bv (el.getD 31 0)) (Quiet.cell 1 g1 31 45 5 (el.map bv).toArray _ _ rfl (by kernel_rfl) (by kernel_rfl) Try.underlying5 rfl _ (key_at el hel 31 (by decide))) ?_
  refine Sy.make (by kernel_rfl) 5 #[bv (el.getD 31 0)] (fun g => .slice (some ⟨g, 0, none⟩) 1 1) (fun _ => by kernel_rfl) (fun g33 => ?_)
  refine Sy.append (by kernel_rfl) 44 5 _ _ Try.underlying44 info_u8 rfl rfl rfl rfl _ _ rfl 2 q31 31 c31 ((el.take 30).map bv ++ ([bv (el.getD 30 0)] ++ s31)).toArray ((el.take 31).map bv) (by kernel_rfl) (by kernel_rfl) (own_take el 30 hel s31 (by decide)) (own_len el 31 hel (by decide)) (own_size el 30 hel s31 e31 (by decide)) m31 3 g33 0 1 1 5 #[bv (el.getD 31 0)] [bv (el.getD 31 0)] (by kernel_rfl) (by kernel_rfl) (by kernel_rfl) rfl (by intro u hu; simp only [List.mem_cons, List.not_mem_nil, or_false] at hu; subst hu; rfl) (by decide) (fun q32 c32 s32 e32 m32 => ?_)
  refine Sy.step (by kernel_rfl) (.slice (some ⟨q32, 0, none⟩) 32 c32) (Quiet.pure (fun _ => by kernel_rfl)) ?_
  refine Sy.nil ?_
  refine Sy.in_ ?_
  refine Sy.then_ ?_
  refine Sy.region ?_
  refine Sy.step (by kernel_rfl) (.int .i64 32) (Quiet.pure (fun _ => by kernel_rfl)) ?_
  refine Sy.step (by kernel_rfl) (.int .i64 32) (Quiet.pure (fun _ => by kernel_rfl)) ?_
  refine Sy.nil ?_
  refine Sy.again ?_
  refine Sy.tidyR (G := [(1, .slice A n c), (2, .pointer (some ⟨g0, 0, none⟩)), (5, .pointer (some ⟨g1, 0, none⟩)), (6, .slice (some ⟨q32, 0, none⟩) 32 c32), (16, .int .i64 32)]) (M := [(g0, 26, (pcs x y i)), (g1, 45, (el.map bv).toArray), (q32, 5, ((el.take 31).map bv ++ ([bv (el.getD 31 0)] ++ s32)).toArray)]) [true, true, true, false] (by kernel_rfl) (all_cons (by kernel_rfl) (all_cons (by kernel_rfl) (all_cons (by kernel_rfl) (all_cons (by kernel_rfl) (all_cons (by kernel_rfl) all_nil))))) ?_
  refine Sy.round ?_
  refine Sy.seq ?_
  refine Sy.region ?_
  refine Sy.step (by kernel_rfl) (.bool true) (Quiet.pure (fun _ => by kernel_rfl)) ?_
  refine Sy.nil ?_
  refine Sy.then_ ?_
  refine Sy.seq ?_
  refine Sy.cond_t (by kernel_rfl) (by kernel_rfl) ?_
  refine Sy.skip ?_
  refine Sy.then_ ?_
  refine Sy.seq ?_
  refine Sy.block ?_
  refine Sy.seq ?_
  refine Sy.region ?_
  refine Sy.step (by kernel_rfl) (.int .i64 32) (Quiet.pure (fun _ => by kernel_rfl)) ?_
  refine Sy.step (by kernel_rfl) (.int .i64 32) (Quiet.pure (fun _ => by kernel_rfl)) ?_
  refine Sy.nil ?_
  refine Sy.then_ ?_
  refine Sy.region ?_
  refine Sy.step (by kernel_rfl) (.slice (some ⟨q32, 0, none⟩) 32 c32) (Quiet.pure (fun _ => by kernel_rfl)) ?_
  refine Sy.step (by kernel_rfl) (.int .i64 32) (Quiet.pure (fun _ => by kernel_rfl)) ?_
  refine Sy.step (by kernel_rfl) (.pointer (some ⟨g1, 32, none⟩)) (Quiet.pure (fun _ => by kernel_rfl)) ?_
  refine Sy.step (by kernel_rfl) (bv (el.getD 32 0)) (Quiet.cell 1 g1 32 45 5 (el.map bv).toArray _ _ rfl (by kernel_rfl) (by kernel_rfl) Try.underlying5 rfl _ (key_at el hel 32 (by decide))) ?_
  refine Sy.make (by kernel_rfl) 5 #[bv (el.getD 32 0)] (fun g => .slice (some ⟨g, 0, none⟩) 1 1) (fun _ => by kernel_rfl) (fun g34 => ?_)
  refine Sy.append (by kernel_rfl) 44 5 _ _ Try.underlying44 info_u8 rfl rfl rfl rfl _ _ rfl 2 q32 32 c32 ((el.take 31).map bv ++ ([bv (el.getD 31 0)] ++ s32)).toArray ((el.take 32).map bv) (by kernel_rfl) (by kernel_rfl) (own_take el 31 hel s32 (by decide)) (own_len el 32 hel (by decide)) (own_size el 31 hel s32 e32 (by decide)) m32 3 g34 0 1 1 5 #[bv (el.getD 32 0)] [bv (el.getD 32 0)] (by kernel_rfl) (by kernel_rfl) (by kernel_rfl) rfl (by intro u hu; simp only [List.mem_cons, List.not_mem_nil, or_false] at hu; subst hu; rfl) (by decide) (fun q33 c33 s33 e33 m33 => ?_)
  refine Sy.step (by kernel_rfl) (.slice (some ⟨q33, 0, none⟩) 33 c33) (Quiet.pure (fun _ => by kernel_rfl)) ?_
  refine Sy.nil ?_
  refine Sy.in_ ?_
  refine Sy.then_ ?_
  refine Sy.region ?_
  refine Sy.step (by kernel_rfl) (.int .i64 33) (Quiet.pure (fun _ => by kernel_rfl)) ?_
  refine Sy.step (by kernel_rfl) (.int .i64 33) (Quiet.pure (fun _ => by kernel_rfl)) ?_
  refine Sy.nil ?_
  refine Sy.again ?_
  refine Sy.tidyR (G := [(1, .slice A n c), (2, .pointer (some ⟨g0, 0, none⟩)), (5, .pointer (some ⟨g1, 0, none⟩)), (6, .slice (some ⟨q33, 0, none⟩) 33 c33), (16, .int .i64 33)]) (M := [(g0, 26, (pcs x y i)), (g1, 45, (el.map bv).toArray), (q33, 5, ((el.take 32).map bv ++ ([bv (el.getD 32 0)] ++ s33)).toArray)]) [true, true, true, false] (by kernel_rfl) (all_cons (by kernel_rfl) (all_cons (by kernel_rfl) (all_cons (by kernel_rfl) (all_cons (by kernel_rfl) (all_cons (by kernel_rfl) all_nil))))) ?_
  refine Sy.round ?_
  refine Sy.seq ?_
  refine Sy.region ?_
  refine Sy.step (by kernel_rfl) (.bool false) (Quiet.pure (fun _ => by kernel_rfl)) ?_
  refine Sy.nil ?_
  refine Sy.then_ ?_
  refine Sy.seq ?_
  refine Sy.cond_f (by kernel_rfl) (by kernel_rfl) ?_
  refine Sy.exit ?_
  refine Sy.then_exit ?_
  refine Sy.then_exit ?_
  refine Sy.in_exit ?_
  refine Sy.then_ ?_
  refine Sy.seq ?_
  refine Sy.region ?_
  refine Sy.step (by kernel_rfl) (.slice (some ⟨q33, 0, none⟩) 33 c33) (Quiet.pure (fun _ => by kernel_rfl)) ?_
  refine Sy.step (by kernel_rfl) (.tuple #[pv tx ty ti, .bool true]) (Quiet.callS 28 #[.slice (some ⟨q33, 0, none⟩) 33 c33] (fun _ => by kernel_rfl) (fun w hw => by have hsrc := src_blk (l := el) (by rw [← own_full el 32 hel]; exact hw.get (i := 2) (t := 5) (cs := ((el.take 32).map bv ++ ([bv (el.getD 32 0)] ++ s33)).toArray) rfl); have hd := decode_any w _ el 33 c33 hel hsrc (by omega); rw [hde.1, hde.2, et] at hd; exact hd)) ?_
  refine Sy.step (by kernel_rfl) (.tuple #[pv tx ty ti, .bool true]) (Quiet.pure (fun _ => by kernel_rfl)) ?_
  refine Sy.step (by kernel_rfl) (pv tx ty ti) (Quiet.pure (fun _ => by kernel_rfl)) ?_
  refine Sy.step (by kernel_rfl) (.bool true) (Quiet.pure (fun _ => by kernel_rfl)) ?_
  refine Sy.make (by kernel_rfl) 26 (pcs 0 0 false) ptr (fun _ => by kernel_rfl) (fun g35 => ?_)
  refine Sy.write (by kernel_rfl) 3 g35 26 (pcs 0 0 false) (pcs tx ty ti) (by kernel_rfl) (Writes.store 0 26 (pcs tx ty ti) _ _ rfl (by kernel_rfl) (by kernel_rfl) (by kernel_rfl) (Nat.le_of_ble_eq_true (by kernel_rfl)) (by kernel_rfl) (by kernel_rfl)) ?_
  refine Sy.step (by kernel_rfl) (.bool true) (Quiet.pure (fun _ => by kernel_rfl)) ?_
  refine Sy.nil ?_
  refine Sy.then_ ?_
  refine Sy.seq ?_
  refine Sy.seq ?_
  refine Sy.regionD (fun j => false) (by kernel_rfl) ?_
  refine Sy.stepD 0 rfl (by kernel_rfl) (fun _ _ _ _ h => h) (by kernel_rfl) (.bool true) (Quiet.call 12 #[] (fun _ => by kernel_rfl) (alive5)) ?_
  refine Sy.stepD 1 rfl (by kernel_rfl) (fun _ _ _ _ h => h) (by kernel_rfl) (.bool false) (Quiet.pure (fun _ => by kernel_rfl)) ?_
  refine Sy.stepD 2 rfl (by kernel_rfl) (fun _ _ _ _ h => h) (by kernel_rfl) (.bool false) (Quiet.pure (fun _ => by kernel_rfl)) ?_
  refine Sy.stepD 3 rfl (by kernel_rfl) (fun _ _ _ _ h => h) (by kernel_rfl) (.bool true) (Quiet.pure (fun _ => by kernel_rfl)) ?_
  refine Sy.stepD 4 rfl (by kernel_rfl) (fun _ _ _ _ h => h) (by kernel_rfl) (.bool false) (Quiet.pure (fun _ => by kernel_rfl)) ?_
  refine Sy.stepD 5 rfl (by kernel_rfl) (fun _ _ _ _ h => h) (by kernel_rfl) (.bool false) (Quiet.pure (fun _ => by kernel_rfl)) ?_
  refine Sy.stepD 6 rfl (by kernel_rfl) (fun _ _ _ _ h => h) (by kernel_rfl) (.bool false) (Quiet.pure (fun _ => by kernel_rfl)) ?_
  refine Sy.stepD 7 rfl (by kernel_rfl) (fun _ _ _ _ h => h) (by kernel_rfl) (pv tx ty ti) (Quiet.load 3 g35 0 9 26 26 (pcs tx ty ti) _ _ rfl (by kernel_rfl) (by kernel_rfl) Try.underlying26 rfl (by kernel_rfl) _ (by kernel_rfl) (Nat.le_of_ble_eq_true (by kernel_rfl))) ?_
  refine Sy.stepD 8 rfl (by kernel_rfl) (fun _ _ _ _ h => h) (by kernel_rfl) (pv x y i) (Quiet.load 0 g0 0 9 26 26 (pcs x y i) _ _ rfl (by kernel_rfl) (by kernel_rfl) Try.underlying26 rfl (by kernel_rfl) _ (by kernel_rfl) (Nat.le_of_ble_eq_true (by kernel_rfl))) ?_
  refine Sy.stepD 9 rfl (by kernel_rfl) (fun _ _ _ _ h => h) (by kernel_rfl) (pv tx ty ti) (Quiet.call 30 #[pv x y i] (fun _ => by kernel_rfl) (cT)) ?_
  refine Sy.stepD 10 rfl (by kernel_rfl) (fun _ _ _ _ h => h) (by kernel_rfl) (.bool false) (Quiet.pure (fun w => neq_pt_same w _ _ _ _ _ _ _ rfl rfl rfl (by first | assumption | exact lt4 _ | decide +kernel) (by first | assumption | exact lt4 _ | decide +kernel))) ?_
  refine Sy.stepD 11 rfl (by kernel_rfl) (fun _ _ _ _ h => h) (by kernel_rfl) (.bool false) (Quiet.pure (fun _ => by kernel_rfl)) ?_
  refine Sy.doneD (by kernel_rfl) ?_
  refine Sy.then_ ?_
  refine Sy.cond_f (by kernel_rfl) (by kernel_rfl) ?_
  refine Sy.skip ?_
  refine Sy.then_ ?_
  refine Sy.seq ?_
  refine Sy.region ?_
  refine Sy.step (by kernel_rfl) (.slice A n c) (Quiet.pure (fun _ => by kernel_rfl)) ?_
  refine Sy.step (by kernel_rfl) (.tuple #[pv rx ry ri, .bool kb]) (Quiet.callS 28 #[.slice A n c] (fun _ => by kernel_rfl) (fun w hw => cD w hw.below)) ?_
  refine Sy.step (by kernel_rfl) (.tuple #[pv rx ry ri, .bool kb]) (Quiet.pure (fun _ => by kernel_rfl)) ?_
  refine Sy.step (by kernel_rfl) (pv rx ry ri) (Quiet.pure (fun _ => by kernel_rfl)) ?_
  refine Sy.step (by kernel_rfl) (.bool kb) (Quiet.pure (fun _ => by kernel_rfl)) ?_
  refine Sy.make (by kernel_rfl) 26 (pcs 0 0 false) ptr (fun _ => by kernel_rfl) (fun g36 => ?_)
  refine Sy.write (by kernel_rfl) 4 g36 26 (pcs 0 0 false) (pcs rx ry ri) (by kernel_rfl) (Writes.store 0 26 (pcs rx ry ri) _ _ rfl (by kernel_rfl) (by kernel_rfl) (by kernel_rfl) (Nat.le_of_ble_eq_true (by kernel_rfl)) (by kernel_rfl) (by kernel_rfl)) ?_
  refine Sy.step (by kernel_rfl) (.bool kb) (Quiet.pure (fun _ => by kernel_rfl)) ?_
  refine Sy.nil ?_
  refine Sy.then_ ?_
  refine Sy.seq ?_
  refine Sy.seq ?_
  refine Sy.region ?_
  refine Sy.step (by kernel_rfl) (.bool kb) (Quiet.pure (fun _ => by kernel_rfl)) ?_
  cases kb
  · have ez : pv 0 0 true = pv rx ry ri := by have h := er; rw [decP_no hkb.symm] at h; exact h
    obtain ⟨rfl, rfl, rfl⟩ := zero_of ez lrx lry
    refine Sy.step (by kernel_rfl) (.bool true) (Quiet.pure (fun _ => by kernel_rfl)) ?_
    refine Sy.nil ?_
    refine Sy.then_ ?_
    refine Sy.cond_t (by kernel_rfl) (by kernel_rfl) ?_
    refine Sy.seq ?_
    refine Sy.regionD (fun j => false) (by kernel_rfl) ?_
    refine Sy.stepD 0 rfl (by kernel_rfl) (fun _ _ _ _ h => h) (by kernel_rfl) (pv 0 0 true) (Quiet.load 4 g36 0 9 26 26 (pcs 0 0 true) _ _ rfl (by kernel_rfl) (by kernel_rfl) Try.underlying26 rfl (by kernel_rfl) _ (by kernel_rfl) (Nat.le_of_ble_eq_true (by kernel_rfl))) ?_
    refine Sy.stepD 1 rfl (by kernel_rfl) (fun _ _ _ _ h => h) (by kernel_rfl) (pv 0 0 true) (Quiet.call 31 #[] (fun _ => by kernel_rfl) (zero_c)) ?_
    refine Sy.stepD 2 rfl (by kernel_rfl) (fun _ _ _ _ h => h) (by kernel_rfl) (.bool true) (Quiet.pure (fun w => eql_pt_same w _ _ _ _ _ _ _ rfl rfl rfl (by first | assumption | exact lt4 _ | decide +kernel) (by first | assumption | exact lt4 _ | decide +kernel))) ?_
    refine Sy.stepD 3 rfl (by kernel_rfl) (fun _ _ _ _ h => h) (by kernel_rfl) (.bool true) (Quiet.pure (fun _ => by kernel_rfl)) ?_
    refine Sy.doneD (by kernel_rfl) ?_
    refine Sy.then_ ?_
    refine Sy.ret ?_
    refine Sy.then_ret ?_
    exact Sy.ret1 (v := .bool true) rfl (.inl (show _ = _ by kernel_rfl))
  · have h33 : n = 33 := by have := (decP_ok hkb.symm).2.2; omega
    subst h33
    obtain ⟨ga, oa, rfl, hl2, hcell2⟩ := hs (by intro e; rw [e] at hn; cases hn)
    have hsl : SrcL w ga oa b := SrcL.of hl2 hcell2
    have cF : ∀ w, Calls Try.prog 26 #[pv rx ry ri] w (Gets w (.agg (b.map bv).toArray)) := fun w => by
      have h := enc_any w rx ry ri lrx lry
      rw [dr, (decP_ok hkb.symm).2.1] at h
      exact h
    refine Sy.step (by kernel_rfl) (.bool false) (Quiet.pure (fun _ => by kernel_rfl)) ?_
    refine Sy.nil ?_
    refine Sy.then_ ?_
    refine Sy.cond_f (by kernel_rfl) (by kernel_rfl) ?_
    refine Sy.skip ?_
    refine Sy.then_ ?_
    refine Sy.seq ?_
    refine Sy.region ?_
    refine Sy.step (by kernel_rfl) (pv rx ry ri) (Quiet.load 4 g36 0 9 26 26 (pcs rx ry ri) _ _ rfl (by kernel_rfl) (by kernel_rfl) Try.underlying26 rfl (by kernel_rfl) _ (by kernel_rfl) (Nat.le_of_ble_eq_true (by kernel_rfl))) ?_
    refine Sy.step (by kernel_rfl) (.agg (b.map bv).toArray) (Quiet.call 26 #[pv rx ry ri] (fun _ => by kernel_rfl) (cF)) ?_
    refine Sy.make (by kernel_rfl) 45 (.int .u8 0 :: .int .u8 0 :: .int .u8 0 :: [.int .u8 0, .int .u8 0, .int .u8 0, .int .u8 0, .int .u8 0, .int .u8 0, .int .u8 0, .int .u8 0, .int .u8 0, .int .u8 0, .int .u8 0, .int .u8 0, .int .u8 0, .int .u8 0, .int .u8 0, .int .u8 0, .int .u8 0, .int .u8 0, .int .u8 0, .int .u8 0, .int .u8 0, .int .u8 0, .int .u8 0, .int .u8 0, .int .u8 0, .int .u8 0, .int .u8 0, .int .u8 0, .int .u8 0, .int .u8 0]).toArray ptr (fun _ => by kernel_rfl) (fun g37 => ?_)
    refine Sy.write (by kernel_rfl) 5 g37 45 (.int .u8 0 :: .int .u8 0 :: .int .u8 0 :: [.int .u8 0, .int .u8 0, .int .u8 0, .int .u8 0, .int .u8 0, .int .u8 0, .int .u8 0, .int .u8 0, .int .u8 0, .int .u8 0, .int .u8 0, .int .u8 0, .int .u8 0, .int .u8 0, .int .u8 0, .int .u8 0, .int .u8 0, .int .u8 0, .int .u8 0, .int .u8 0, .int .u8 0, .int .u8 0, .int .u8 0, .int .u8 0, .int .u8 0, .int .u8 0, .int .u8 0, .int .u8 0, .int .u8 0, .int .u8 0]).toArray (b.map bv).toArray (by kernel_rfl) (Writes.store 0 45 (b.map bv).toArray _ _ rfl (by kernel_rfl) (by kernel_rfl) (by rw [key_sz b hn]; kernel_rfl) (by rw [key_sz b hn]; exact Nat.le_of_ble_eq_true (by kernel_rfl)) (key_one _) (key_set _ _ (by rw [hn]; kernel_rfl))) ?_
    refine Sy.nil ?_
    refine Sy.then_ ?_
    refine Sy.seq ?_
    refine Sy.seq ?_
    refine Sy.region ?_
    refine Sy.step (by kernel_rfl) (.int .i64 0) (Quiet.pure (fun _ => by kernel_rfl)) ?_
    refine Sy.nil ?_
    refine Sy.then_ ?_
    refine Sy.block ?_
    refine Sy.loopN 34 ?_
    refine Sy.tidyR (G := [(1, .slice (some ⟨ga, oa, none⟩) 33 c), (12, .pointer (some ⟨g37, 0, none⟩)), (55, .int .i64 0)]) (M := [(g37, 45, (b.map bv).toArray)]) [false, false, false, false, false, true] (by kernel_rfl) (all_cons (by kernel_rfl) (all_cons (by kernel_rfl) (all_cons (by kernel_rfl) all_nil))) ?_
    refine Sy.round ?_
    refine Sy.seq ?_
    refine Sy.region ?_
    refine Sy.step (by kernel_rfl) (.bool true) (Quiet.pure (fun _ => by kernel_rfl)) ?_
    refine Sy.nil ?_
    refine Sy.then_ ?_
    refine Sy.seq ?_
    refine Sy.cond_t (by kernel_rfl) (by kernel_rfl) ?_
    refine Sy.skip ?_
    refine Sy.then_ ?_
    refine Sy.seq ?_
    refine Sy.block ?_
    refine Sy.seq ?_
    refine Sy.region ?_
    refine Sy.step (by kernel_rfl) (.int .i64 0) (Quiet.pure (fun _ => by kernel_rfl)) ?_
    refine Sy.step (by kernel_rfl) (.int .i64 0) (Quiet.pure (fun _ => by kernel_rfl)) ?_
    refine Sy.nil ?_
    refine Sy.then_ ?_
    refine Sy.seq ?_
    refine Sy.regionD (fun j => false) (by kernel_rfl) ?_
    refine Sy.stepD 0 rfl (by kernel_rfl) (fun _ _ _ _ h => h) (by kernel_rfl) (.int .i64 0) (Quiet.pure (fun _ => by kernel_rfl)) ?_
    refine Sy.stepD 1 rfl (by kernel_rfl) (fun _ _ _ _ h => h) (by kernel_rfl) (.slice (some ⟨ga, oa, none⟩) 33 c) (Quiet.pure (fun _ => by kernel_rfl)) ?_
    refine Sy.stepD 2 rfl (by kernel_rfl) (fun _ _ _ _ h => h) (by kernel_rfl) (.int .i64 33) (Quiet.pure (fun _ => by kernel_rfl)) ?_
    refine Sy.stepD 3 rfl (by kernel_rfl) (fun _ _ _ _ h => h) (by kernel_rfl) (.bool false) (Quiet.pure (fun _ => by kernel_rfl)) ?_
    refine Sy.stepD 4 rfl (by kernel_rfl) (fun _ _ _ _ h => h) (by kernel_rfl) (.bool false) (Quiet.pure (fun _ => by kernel_rfl)) ?_
    refine Sy.stepD 5 rfl (by kernel_rfl) (fun _ _ _ _ h => h) (by kernel_rfl) (.int .i64 0) (Quiet.pure (fun _ => by kernel_rfl)) ?_
    refine Sy.stepD 6 rfl (by kernel_rfl) (fun _ _ _ _ h => h) (by kernel_rfl) (.pointer (some ⟨g37, 0, none⟩)) (Quiet.pure (fun _ => by kernel_rfl)) ?_
    refine Sy.stepD 7 rfl (by kernel_rfl) (fun _ _ _ _ h => h) (by kernel_rfl) (bv (b.getD 0 0)) (Quiet.cell 0 g37 0 45 5 (b.map bv).toArray _ _ rfl (by kernel_rfl) (by kernel_rfl) Try.underlying5 rfl _ (key_at b hn 0 (by decide))) ?_
    refine Sy.stepD 8 rfl (by kernel_rfl) (fun _ _ _ _ h => h) (by kernel_rfl) (.slice (some ⟨ga, oa, none⟩) 33 c) (Quiet.pure (fun _ => by kernel_rfl)) ?_
    refine Sy.stepD 9 rfl (by kernel_rfl) (fun _ _ _ _ h => h) (by kernel_rfl) (.int .i64 0) (Quiet.pure (fun _ => by kernel_rfl)) ?_
    refine Sy.stepD 10 rfl (by kernel_rfl) (fun _ _ _ _ h => h) (by kernel_rfl) (.pointer (some ⟨ga, oa, none⟩)) (Quiet.pure (fun w => exec_index 44 _ _ ga (oa) 33 (c) 0 rfl (by kernel_rfl) (by kernel_rfl) (by kernel_rfl) (fun _ => by kernel_rfl) (by decide) w)) ?_
    refine Sy.stepD 11 rfl (by kernel_rfl) (fun _ _ _ _ h => h) (by kernel_rfl) (bv (b.getD 0 0)) (Quiet.thereOne ga (oa + 0) 5 _ _ rfl (by kernel_rfl) hsl.1 _ (src_one hsl 0 _ (one_at b hn 0 (by decide))) Try.underlying5 rfl) ?_
    refine Sy.stepD 12 rfl (by kernel_rfl) (fun _ _ _ _ h => h) (by kernel_rfl) (.bool false) (Quiet.pure (fun w => neq_u8_same w _ _ _ _ (b.getD 0 0) rfl rfl rfl)) ?_
    refine Sy.stepD 13 rfl (by kernel_rfl) (fun _ _ _ _ h => h) (by kernel_rfl) (.bool false) (Quiet.pure (fun _ => by kernel_rfl)) ?_
    refine Sy.doneD (by kernel_rfl) ?_
    refine Sy.then_ ?_
    refine Sy.cond_f (by kernel_rfl) (by kernel_rfl) ?_
    refine Sy.skip ?_
    refine Sy.in_ ?_
    refine Sy.then_ ?_
    refine Sy.region ?_
    refine Sy.step (by kernel_rfl) (.int .i64 1) (Quiet.pure (fun _ => by kernel_rfl)) ?_
    refine Sy.step (by kernel_rfl) (.int .i64 1) (Quiet.pure (fun _ => by kernel_rfl)) ?_
    refine Sy.nil ?_
    refine Sy.again ?_
    refine Sy.tidyR (G := [(1, .slice (some ⟨ga, oa, none⟩) 33 c), (12, .pointer (some ⟨g37, 0, none⟩)), (55, .int .i64 1)]) (M := [(g37, 45, (b.map bv).toArray)]) [true] (by kernel_rfl) (all_cons (by kernel_rfl) (all_cons (by kernel_rfl) (all_cons (by kernel_rfl) all_nil))) ?_
    refine Sy.round ?_
    refine Sy.seq ?_
    refine Sy.region ?_
    refine Sy.step (by kernel_rfl) (.bool true) (Quiet.pure (fun _ => by kernel_rfl)) ?_
    refine Sy.nil ?_
    refine Sy.then_ ?_
    refine Sy.seq ?_
    refine Sy.cond_t (by kernel_rfl) (by kernel_rfl) ?_
    refine Sy.skip ?_
    refine Sy.then_ ?_
    refine Sy.seq ?_
    refine Sy.block ?_
    refine Sy.seq ?_
    refine Sy.region ?_
    refine Sy.step (by kernel_rfl) (.int .i64 1) (Quiet.pure (fun _ => by kernel_rfl)) ?_
    refine Sy.step (by kernel_rfl) (.int .i64 1) (Quiet.pure (fun _ => by kernel_rfl)) ?_
    refine Sy.nil ?_
    refine Sy.then_ ?_
    refine Sy.seq ?_
    refine Sy.regionD (fun j => false) (by kernel_rfl) ?_
    refine Sy.stepD 0 rfl (by kernel_rfl) (fun _ _ _ _ h => h) (by kernel_rfl) (.int .i64 1) (Quiet.pure (fun _ => by kernel_rfl)) ?_
    refine Sy.stepD 1 rfl (by kernel_rfl) (fun _ _ _ _ h => h) (by kernel_rfl) (.slice (some ⟨ga, oa, none⟩) 33 c) (Quiet.pure (fun _ => by kernel_rfl)) ?_
    refine Sy.stepD 2 rfl (by kernel_rfl) (fun _ _ _ _ h => h) (by kernel_rfl) (.int .i64 33) (Quiet.pure (fun _ => by kernel_rfl)) ?_
    refine Sy.stepD 3 rfl (by kernel_rfl) (fun _ _ _ _ h => h) (by kernel_rfl) (.bool false) (Quiet.pure (fun _ => by kernel_rfl)) ?_
    refine Sy.stepD 4 rfl (by kernel_rfl) (fun _ _ _ _ h => h) (by kernel_rfl) (.bool false) (Quiet.pure (fun _ => by kernel_rfl)) ?_
    refine Sy.stepD 5 rfl (by kernel_rfl) (fun _ _ _ _ h => h) (by kernel_rfl) (.int .i64 1) (Quiet.pure (fun _ => by kernel_rfl)) ?_
    refine Sy.stepD 6 rfl (by kernel_rfl) (fun _ _ _ _ h => h) (by kernel_rfl) (.pointer (some ⟨g37, 1, none⟩)) (Quiet.pure (fun _ => by kernel_rfl)) ?_
    refine Sy.stepD 7 rfl (by kernel_rfl) (fun _ _ _ _ h => h) (by kernel_rfl) (bv (b.getD 1 0)) (Quiet.cell 0 g37 1 45 5 (b.map bv).toArray _ _ rfl (by kernel_rfl) (by kernel_rfl) Try.underlying5 rfl _ (key_at b hn 1 (by decide))) ?_
    refine Sy.stepD 8 rfl (by kernel_rfl) (fun _ _ _ _ h => h) (by kernel_rfl) (.slice (some ⟨ga, oa, none⟩) 33 c) (Quiet.pure (fun _ => by kernel_rfl)) ?_
    refine Sy.stepD 9 rfl (by kernel_rfl) (fun _ _ _ _ h => h) (by kernel_rfl) (.int .i64 1) (Quiet.pure (fun _ => by kernel_rfl)) ?_
    refine Sy.stepD 10 rfl (by kernel_rfl) (fun _ _ _ _ h => h) (by kernel_rfl) (.pointer (some ⟨ga, oa + 1, none⟩)) (Quiet.pure (fun w => exec_index 44 _ _ ga (oa) 33 (c) 1 rfl (by kernel_rfl) (by kernel_rfl) (by kernel_rfl) (fun _ => by kernel_rfl) (by decide) w)) ?_
    refine Sy.stepD 11 rfl (by kernel_rfl) (fun _ _ _ _ h => h) (by kernel_rfl) (bv (b.getD 1 0)) (Quiet.thereOne ga (oa + 1) 5 _ _ rfl (by kernel_rfl) hsl.1 _ (src_one hsl 1 _ (one_at b hn 1 (by decide))) Try.underlying5 rfl) ?_
    refine Sy.stepD 12 rfl (by kernel_rfl) (fun _ _ _ _ h => h) (by kernel_rfl) (.bool false) (Quiet.pure (fun w => neq_u8_same w _ _ _ _ (b.getD 1 0) rfl rfl rfl)) ?_
    refine Sy.stepD 13 rfl (by kernel_rfl) (fun _ _ _ _ h => h) (by kernel_rfl) (.bool false) (Quiet.pure (fun _ => by kernel_rfl)) ?_
    refine Sy.doneD (by kernel_rfl) ?_
    refine Sy.then_ ?_
    refine Sy.cond_f (by kernel_rfl) (by kernel_rfl) ?_
    refine Sy.skip ?_
    refine Sy.in_ ?_
    refine Sy.then_ ?_
    refine Sy.region ?_
    refine Sy.step (by kernel_rfl) (.int .i64 2) (Quiet.pure (fun _ => by kernel_rfl)) ?_
    refine Sy.step (by kernel_rfl) (.int .i64 2) (Quiet.pure (fun _ => by kernel_rfl)) ?_
    refine Sy.nil ?_
    refine Sy.again ?_
    refine Sy.tidyR (G := [(1, .slice (some ⟨ga, oa, none⟩) 33 c), (12, .pointer (some ⟨g37, 0, none⟩)), (55, .int .i64 2)]) (M := [(g37, 45, (b.map bv).toArray)]) [true] (by kernel_rfl) (all_cons (by kernel_rfl) (all_cons (by kernel_rfl) (all_cons (by kernel_rfl) all_nil))) ?_
    refine Sy.round ?_
    refine Sy.seq ?_
    refine Sy.region ?_
    refine Sy.step (by kernel_rfl) (.bool true) (Quiet.pure (fun _ => by kernel_rfl)) ?_
    refine Sy.nil ?_
    refine Sy.then_ ?_
    refine Sy.seq ?_
    refine Sy.cond_t (by kernel_rfl) (by kernel_rfl) ?_
    refine Sy.skip ?_
    refine Sy.then_ ?_
    refine Sy.seq ?_
    refine Sy.block ?_
    refine Sy.seq ?_
    refine Sy.region ?_
    refine Sy.step (by kernel_rfl) (.int .i64 2) (Quiet.pure (fun _ => by kernel_rfl)) ?_
    refine Sy.step (by kernel_rfl) (.int .i64 2) (Quiet.pure (fun _ => by kernel_rfl)) ?_
    refine Sy.nil ?_
    refine Sy.then_ ?_
    refine Sy.seq ?_
    refine Sy.regionD (fun j => false) (by kernel_rfl) ?_
    refine Sy.stepD 0 rfl (by kernel_rfl) (fun _ _ _ _ h => h) (by kernel_rfl) (.int .i64 2) (Quiet.pure (fun _ => by kernel_rfl)) ?_
    refine Sy.stepD 1 rfl (by kernel_rfl) (fun _ _ _ _ h => h) (by kernel_rfl) (.slice (some ⟨ga, oa, none⟩) 33 c) (Quiet.pure (fun _ => by kernel_rfl)) ?_
    refine Sy.stepD 2 rfl (by kernel_rfl) (fun _ _ _ _ h => h) (by kernel_rfl) (.int .i64 33) (Quiet.pure (fun _ => by kernel_rfl)) ?_
    refine Sy.stepD 3 rfl (by kernel_rfl) (fun _ _ _ _ h => h) (by kernel_rfl) (.bool false) (Quiet.pure (fun _ => by kernel_rfl)) ?_
    refine Sy.stepD 4 rfl (by kernel_rfl) (fun _ _ _ _ h => h) (by kernel_rfl) (.bool false) (Quiet.pure (fun _ => by kernel_rfl)) ?_
    refine Sy.stepD 5 rfl (by kernel_rfl) (fun _ _ _ _ h => h) (by kernel_rfl) (.int .i64 2) (Quiet.pure (fun _ => by kernel_rfl)) ?_
    refine Sy.stepD 6 rfl (by kernel_rfl) (fun _ _ _ _ h => h) (by kernel_rfl) (.pointer (some ⟨g37, 2, none⟩)) (Quiet.pure (fun _ => by kernel_rfl)) ?_
    refine Sy.stepD 7 rfl (by kernel_rfl) (fun _ _ _ _ h => h) (by kernel_rfl) (bv (b.getD 2 0)) (Quiet.cell 0 g37 2 45 5 (b.map bv).toArray _ _ rfl (by kernel_rfl) (by kernel_rfl) Try.underlying5 rfl _ (key_at b hn 2 (by decide))) ?_
    refine Sy.stepD 8 rfl (by kernel_rfl) (fun _ _ _ _ h => h) (by kernel_rfl) (.slice (some ⟨ga, oa, none⟩) 33 c) (Quiet.pure (fun _ => by kernel_rfl)) ?_
    refine Sy.stepD 9 rfl (by kernel_rfl) (fun _ _ _ _ h => h) (by kernel_rfl) (.int .i64 2) (Quiet.pure (fun _ => by kernel_rfl)) ?_
    refine Sy.stepD 10 rfl (by kernel_rfl) (fun _ _ _ _ h => h) (by kernel_rfl) (.pointer (some ⟨ga, oa + 2, none⟩)) (Quiet.pure (fun w => exec_index 44 _ _ ga (oa) 33 (c) 2 rfl (by kernel_rfl) (by kernel_rfl) (by kernel_rfl) (fun _ => by kernel_rfl) (by decide) w)) ?_
    refine Sy.stepD 11 rfl (by kernel_rfl) (fun _ _ _ _ h => h) (by kernel_rfl) (bv (b.getD 2 0)) (Quiet.thereOne ga (oa + 2) 5 _ _ rfl (by kernel_rfl) hsl.1 _ (src_one hsl 2 _ (one_at b hn 2 (by decide))) Try.underlying5 rfl) ?_
    refine Sy.stepD 12 rfl (by kernel_rfl) (fun _ _ _ _ h => h) (by kernel_rfl) (.bool false) (Quiet.pure (fun w => neq_u8_same w _ _ _ _ (b.getD 2 0) rfl rfl rfl)) ?_
    refine Sy.stepD 13 rfl (by kernel_rfl) (fun _ _ _ _ h => h) (by kernel_rfl) (.bool false) (Quiet.pure (fun _ => by kernel_rfl)) ?_
    refine Sy.doneD (by kernel_rfl) ?_
    refine Sy.then_ ?_
    refine Sy.cond_f (by kernel_rfl) (by kernel_rfl) ?_
    refine Sy.skip ?_
    refine Sy.in_ ?_
    refine Sy.then_ ?_
    refine Sy.region ?_
    refine Sy.step (by kernel_rfl) (.int .i64 3) (Quiet.pure (fun _ => by kernel_rfl)) ?_
    refine Sy.step (by kernel_rfl) (.int .i64 3) (Quiet.pure (fun _ => by kernel_rfl)) ?_
    refine Sy.nil ?_
    refine Sy.again ?_
    refine Sy.tidyR (G := [(1, .slice (some ⟨ga, oa, none⟩) 33 c), (12, .pointer (some ⟨g37, 0, none⟩)), (55, .int .i64 3)]) (M := [(g37, 45, (b.map bv).toArray)]) [true] (by kernel_rfl) (all_cons (by kernel_rfl) (all_cons (by kernel_rfl) (all_cons (by kernel_rfl) all_nil))) ?_
    refine Sy.round ?_
    refine Sy.seq ?_
    refine Sy.region ?_
    refine Sy.step (by kernel_rfl) (.bool true) (Quiet.pure (fun _ => by kernel_rfl)) ?_
    refine Sy.nil ?_
    refine Sy.then_ ?_
    refine Sy.seq ?_
    refine Sy.cond_t (by kernel_rfl) (by kernel_rfl) ?_
    refine Sy.skip ?_
    refine Sy.then_ ?_
    refine Sy.seq ?_
    refine Sy.block ?_
    refine Sy.seq ?_
    refine Sy.region ?_
    refine Sy.step (by kernel_rfl) (.int .i64 3) (Quiet.pure (fun _ => by kernel_rfl)) ?_
    refine Sy.step (by kernel_rfl) (.int .i64 3) (Quiet.pure (fun _ => by kernel_rfl)) ?_
    refine Sy.nil ?_
    refine Sy.then_ ?_
    refine Sy.seq ?_
    refine Sy.regionD (fun j => false) (by kernel_rfl) ?_
    refine Sy.stepD 0 rfl (by kernel_rfl) (fun _ _ _ _ h => h) (by kernel_rfl) (.int .i64 3) (Quiet.pure (fun _ => by kernel_rfl)) ?_
    refine Sy.stepD 1 rfl (by kernel_rfl) (fun _ _ _ _ h => h) (by kernel_rfl) (.slice (some ⟨ga, oa, none⟩) 33 c) (Quiet.pure (fun _ => by kernel_rfl)) ?_
    refine Sy.stepD 2 rfl (by kernel_rfl) (fun _ _ _ _ h => h) (by kernel_rfl) (.int .i64 33) (Quiet.pure (fun _ => by kernel_rfl)) ?_
    refine Sy.stepD 3 rfl (by kernel_rfl) (fun _ _ _ _ h => h) (by kernel_rfl) (.bool false) (Quiet.pure (fun _ => by kernel_rfl)) ?_
    refine Sy.stepD 4 rfl (by kernel_rfl) (fun _ _ _ _ h => h) (by kernel_rfl) (.bool false) (Quiet.pure (fun _ => by kernel_rfl)) ?_
    refine Sy.stepD 5 rfl (by kernel_rfl) (fun _ _ _ _ h => h) (by kernel_rfl) (.int .i64 3) (Quiet.pure (fun _ => by kernel_rfl)) ?_
    refine Sy.stepD 6 rfl (by kernel_rfl) (fun _ _ _ _ h => h) (by kernel_rfl) (.pointer (some ⟨g37, 3, none⟩)) (Quiet.pure (fun _ => by kernel_rfl)) ?_
    refine Sy.stepD 7 rfl (by kernel_rfl) (fun _ _ _ _ h => h) (by kernel_rfl) (bv (b.getD 3 0)) (Quiet.cell 0 g37 3 45 5 (b.map bv).toArray _ _ rfl (by kernel_rfl) (by kernel_rfl) Try.underlying5 rfl _ (key_at b hn 3 (by decide))) ?_
    refine Sy.stepD 8 rfl (by kernel_rfl) (fun _ _ _ _ h => h) (by kernel_rfl) (.slice (some ⟨ga, oa, none⟩) 33 c) (Quiet.pure (fun _ => by kernel_rfl)) ?_
    refine Sy.stepD 9 rfl (by kernel_rfl) (fun _ _ _ _ h => h) (by kernel_rfl) (.int .i64 3) (Quiet.pure (fun _ => by kernel_rfl)) ?_
    refine Sy.stepD 10 rfl (by kernel_rfl) (fun _ _ _ _ h => h) (by kernel_rfl) (.pointer (some ⟨ga, oa + 3, none⟩)) (Quiet.pure (fun w => exec_index 44 _ _ ga (oa) 33 (c) 3 rfl (by kernel_rfl) (by kernel_rfl) (by kernel_rfl) (fun _ => by kernel_rfl) (by decide) w)) ?_
    refine Sy.stepD 11 rfl (by kernel_rfl) (fun _ _ _ _ h => h) (by kernel_rfl) (bv (b.getD 3 0)) (Quiet.thereOne ga (oa + 3) 5 _ _ rfl (by kernel_rfl) hsl.1 _ (src_one hsl 3 _ (one_at b hn 3 (by decide))) Try.underlying5 rfl) ?_
    refine Sy.stepD 12 rfl (by kernel_rfl) (fun _ _ _ _ h => h) (by kernel_rfl) (.bool false) (Quiet.pure (fun w => neq_u8_same w _ _ _ _ (b.getD 3 0) rfl rfl rfl)) ?_
    refine Sy.stepD 13 rfl (by kernel_rfl) (fun _ _ _ _ h => h) (by kernel_rfl) (.bool false) (Quiet.pure (fun _ => by kernel_rfl)) ?_
    refine Sy.doneD (by kernel_rfl) ?_
    refine Sy.then_ ?_
    refine Sy.cond_f (by kernel_rfl) (by kernel_rfl) ?_
    refine Sy.skip ?_
    refine Sy.in_ ?_
    refine Sy.then_ ?_
    refine Sy.region ?_
    refine Sy.step (by kernel_rfl) (.int .i64 4) (Quiet.pure (fun _ => by kernel_rfl)) ?_
    refine Sy.step (by kernel_rfl) (.int .i64 4) (Quiet.pure (fun _ => by kernel_rfl)) ?_
    refine Sy.nil ?_
    refine Sy.again ?_
    refine Sy.tidyR (G := [(1, .slice (some ⟨ga, oa, none⟩) 33 c), (12, .pointer (some ⟨g37, 0, none⟩)), (55, .int .i64 4)]) (M := [(g37, 45, (b.map bv).toArray)]) [true] (by kernel_rfl) (all_cons (by kernel_rfl) (all_cons (by kernel_rfl) (all_cons (by kernel_rfl) all_nil))) ?_
    refine Sy.round ?_
    refine Sy.seq ?_
    refine Sy.region ?_
    refine Sy.step (by kernel_rfl) (.bool true) (Quiet.pure (fun _ => by kernel_rfl)) ?_
    refine Sy.nil ?_
    refine Sy.then_ ?_
    refine Sy.seq ?_
    refine Sy.cond_t (by kernel_rfl) (by kernel_rfl) ?_
    refine Sy.skip ?_
    refine Sy.then_ ?_
    refine Sy.seq ?_
    refine Sy.block ?_
    refine Sy.seq ?_
    refine Sy.region ?_
    refine Sy.step (by kernel_rfl) (.int .i64 4) (Quiet.pure (fun _ => by kernel_rfl)) ?_
    refine Sy.step (by kernel_rfl) (.int .i64 4) (Quiet.pure (fun _ => by kernel_rfl)) ?_
    refine Sy.nil ?_
    refine Sy.then_ ?_
    refine Sy.seq ?_
    refine Sy.regionD (fun j => false) (by kernel_rfl) ?_
    refine Sy.stepD 0 rfl (by kernel_rfl) (fun _ _ _ _ h => h) (by kernel_rfl) (.int .i64 4) (Quiet.pure (fun _ => by kernel_rfl)) ?_
    refine Sy.stepD 1 rfl (by kernel_rfl) (fun _ _ _ _ h => h) (by kernel_rfl) (.slice (some ⟨ga, oa, none⟩) 33 c) (Quiet.pure (fun _ => by kernel_rfl)) ?_
    refine Sy.stepD 2 rfl (by kernel_rfl) (fun _ _ _ _ h => h) (by kernel_rfl) (.int .i64 33) (Quiet.pure (fun _ => by kernel_rfl)) ?_
    refine Sy.stepD 3 rfl (by kernel_rfl) (fun _ _ _ _ h => h) (by kernel_rfl) (.bool false) (Quiet.pure (fun _ => by kernel_rfl)) ?_
    refine Sy.stepD 4 rfl (by kernel_rfl) (fun _ _ _ _ h => h) (by kernel_rfl) (.bool false) (Quiet.pure (fun _ => by kernel_rfl)) ?_
    refine Sy.stepD 5 rfl (by kernel_rfl) (fun _ _ _ _ h => h) (by kernel_rfl) (.int .i64 4) (Quiet.pure (fun _ => by kernel_rfl)) ?_
    refine Sy.stepD 6 rfl (by kernel_rfl) (fun _ _ _ _ h => h) (by kernel_rfl) (.pointer (some ⟨g37, 4, none⟩)) (Quiet.pure (fun _ => by kernel_rfl)) ?_
    refine Sy.stepD 7 rfl (by kernel_rfl) (fun _ _ _ _ h => h) (by kernel_rfl) (bv (b.getD 4 0)) (Quiet.cell 0 g37 4 45 5 (b.map bv).toArray _ _ rfl (by kernel_rfl) (by kernel_rfl) Try.underlying5 rfl _ (key_at b hn 4 (by decide))) ?_
    refine Sy.stepD 8 rfl (by kernel_rfl) (fun _ _ _ _ h => h) (by kernel_rfl) (.slice (some ⟨ga, oa, none⟩) 33 c) (Quiet.pure (fun _ => by kernel_rfl)) ?_
    refine Sy.stepD 9 rfl (by kernel_rfl) (fun _ _ _ _ h => h) (by kernel_rfl) (.int .i64 4) (Quiet.pure (fun _ => by kernel_rfl)) ?_
    refine Sy.stepD 10 rfl (by kernel_rfl) (fun _ _ _ _ h => h) (by kernel_rfl) (.pointer (some ⟨ga, oa + 4, none⟩)) (Quiet.pure (fun w => exec_index 44 _ _ ga (oa) 33 (c) 4 rfl (by kernel_rfl) (by kernel_rfl) (by kernel_rfl) (fun _ => by kernel_rfl) (by decide) w)) ?_
    refine Sy.stepD 11 rfl (by kernel_rfl) (fun _ _ _ _ h => h) (by kernel_rfl) (bv (b.getD 4 0)) (Quiet.thereOne ga (oa + 4) 5 _ _ rfl (by kernel_rfl) hsl.1 _ (src_one hsl 4 _ (one_at b hn 4 (by decide))) Try.underlying5 rfl) ?_
    refine Sy.stepD 12 rfl (by kernel_rfl) (fun _ _ _ _ h => h) (by kernel_rfl) (.bool false) (Quiet.pure (fun w => neq_u8_same w _ _ _ _ (b.getD 4 0) rfl rfl rfl)) ?_
    refine Sy.stepD 13 rfl (by kernel_rfl) (fun _ _ _ _ h => h) (by kernel_rfl) (.bool false) (Quiet.pure (fun _ => by kernel_rfl)) ?_
    refine Sy.doneD (by kernel_rfl) ?_
    refine Sy.then_ ?_
    refine Sy.cond_f (by kernel_rfl) (by kernel_rfl) ?_
    refine Sy.skip ?_
    refine Sy.in_ ?_
    refine Sy.then_ ?_
    refine Sy.region ?_
    refine Sy.step (by kernel_rfl) (.int .i64 5) (Quiet.pure (fun _ => by kernel_rfl)) ?_
    refine Sy.step (by kernel_rfl) (.int .i64 5) (Quiet.pure (fun _ => by kernel_rfl)) ?_
    refine Sy.nil ?_
    refine Sy.again ?_
    refine Sy.tidyR (G := [(1, .slice (some ⟨ga, oa, none⟩) 33 c), (12, .pointer (some ⟨g37, 0, none⟩)), (55, .int .i64 5)]) (M := [(g37, 45, (b.map bv).toArray)]) [true] (by kernel_rfl) (all_cons (by kernel_rfl) (all_cons (by kernel_rfl) (all_cons (by kernel_rfl) all_nil))) ?_
    refine Sy.round ?_
    refine Sy.seq ?_
    refine Sy.region ?_
    refine Sy.step (by kernel_rfl) (.bool true) (Quiet.pure (fun _ => by kernel_rfl)) ?_
    refine Sy.nil ?_
    refine Sy.then_ ?_
    refine Sy.seq ?_
    refine Sy.cond_t (by kernel_rfl) (by kernel_rfl) ?_
    refine Sy.skip ?_
    refine Sy.then_ ?_
    refine Sy.seq ?_
    refine Sy.block ?_
    refine Sy.seq ?_
    refine Sy.region ?_
    refine Sy.step (by kernel_rfl) (.int .i64 5) (Quiet.pure (fun _ => by kernel_rfl)) ?_
    refine Sy.step (by kernel_rfl) (.int .i64 5) (Quiet.pure (fun _ => by kernel_rfl)) ?_
    refine Sy.nil ?_
    refine Sy.then_ ?_
    refine Sy.seq ?_
    refine Sy.regionD (fun j => false) (by kernel_rfl) ?_
    refine Sy.stepD 0 rfl (by kernel_rfl) (fun _ _ _ _ h => h) (by kernel_rfl) (.int .i64 5) (Quiet.pure (fun _ => by kernel_rfl)) ?_
    refine Sy.stepD 1 rfl (by kernel_rfl) (fun _ _ _ _ h => h) (by kernel_rfl) (.slice (some ⟨ga, oa, none⟩) 33 c) (Quiet.pure (fun _ => by kernel_rfl)) ?_
    refine Sy.stepD 2 rfl (by kernel_rfl) (fun _ _ _ _ h => h) (by kernel_rfl) (.int .i64 33) (Quiet.pure (fun _ => by kernel_rfl)) ?_
    refine Sy.stepD 3 rfl (by kernel_rfl) (fun _ _ _ _ h => h) (by kernel_rfl) (.bool false) (Quiet.pure (fun _ => by kernel_rfl)) ?_
    refine Sy.stepD 4 rfl (by kernel_rfl) (fun _ _ _ _ h => h) (by kernel_rfl) (.bool false) (Quiet.pure (fun _ => by kernel_rfl)) ?_
    refine Sy.stepD 5 rfl (by kernel_rfl) (fun _ _ _ _ h => h) (by kernel_rfl) (.int .i64 5) (Quiet.pure (fun _ => by kernel_rfl)) ?_
    refine Sy.stepD 6 rfl (by kernel_rfl) (fun _ _ _ _ h => h) (by kernel_rfl) (.pointer (some ⟨g37, 5, none⟩)) (Quiet.pure (fun _ => by kernel_rfl)) ?_
    refine Sy.stepD 7 rfl (by kernel_rfl) (fun _ _ _ _ h => h) (by kernel_rfl) (bv (b.getD 5 0)) (Quiet.cell 0 g37 5 45 5 (b.map bv).toArray _ _ rfl (by kernel_rfl) (by kernel_rfl) Try.underlying5 rfl _ (key_at b hn 5 (by decide))) ?_
    refine Sy.stepD 8 rfl (by kernel_rfl) (fun _ _ _ _ h => h) (by kernel_rfl) (.slice (some ⟨ga, oa, none⟩) 33 c) (Quiet.pure (fun _ => by kernel_rfl)) ?_
    refine Sy.stepD 9 rfl (by kernel_rfl) (fun _ _ _ _ h => h) (by kernel_rfl) (.int .i64 5) (Quiet.pure (fun _ => by kernel_rfl)) ?_
    refine Sy.stepD 10 rfl (by kernel_rfl) (fun _ _ _ _ h => h) (by kernel_rfl) (.pointer (some ⟨ga, oa + 5, none⟩)) (Quiet.pure (fun w => exec_index 44 _ _ ga (oa) 33 (c) 5 rfl (by kernel_rfl) (by kernel_rfl) (by kernel_rfl) (fun _ => by kernel_rfl) (by decide) w)) ?_
    refine Sy.stepD 11 rfl (by kernel_rfl) (fun _ _ _ _ h => h) (by kernel_rfl) (bv (b.getD 5 0)) (Quiet.thereOne ga (oa + 5) 5 _ _ rfl (by kernel_rfl) hsl.1 _ (src_one hsl 5 _ (one_at b hn 5 (by decide))) Try.underlying5 rfl) ?_
    refine Sy.stepD 12 rfl (by kernel_rfl) (fun _ _ _ _ h => h) (by kernel_rfl) (.bool false) (Quiet.pure (fun w => neq_u8_same w _ _ _ _ (b.getD 5 0) rfl rfl rfl)) ?_
    refine Sy.stepD 13 rfl (by kernel_rfl) (fun _ _ _ _ h => h) (by kernel_rfl) (.bool false) (Quiet.pure (fun _ => by kernel_rfl)) ?_
    refine Sy.doneD (by kernel_rfl) ?_
    refine Sy.then_ ?_
    refine Sy.cond_f (by kernel_rfl) (by kernel_rfl) ?_
    refine Sy.skip ?_
    refine Sy.in_ ?_
    refine Sy.then_ ?_
    refine Sy.region ?_
    refine Sy.step (by kernel_rfl) (.int .i64 6) (Quiet.pure (fun _ => by kernel_rfl)) ?_
    refine Sy.step (by kernel_rfl) (.int .i64 6) (Quiet.pure (fun _ => by kernel_rfl)) ?_
    refine Sy.nil ?_
    refine Sy.again ?_
    refine Sy.tidyR (G := [(1, .slice (some ⟨ga, oa, none⟩) 33 c), (12, .pointer (some ⟨g37, 0, none⟩)), (55, .int .i64 6)]) (M := [(g37, 45, (b.map bv).toArray)]) [true] (by kernel_rfl) (all_cons (by kernel_rfl) (all_cons (by kernel_rfl) (all_cons (by kernel_rfl) all_nil))) ?_
    refine Sy.round ?_
    refine Sy.seq ?_
    refine Sy.region ?_
    refine Sy.step (by kernel_rfl) (.bool true) (Quiet.pure (fun _ => by kernel_rfl)) ?_
    refine Sy.nil ?_
    refine Sy.then_ ?_
    refine Sy.seq ?_
    refine Sy.cond_t (by kernel_rfl) (by kernel_rfl) ?_
    refine Sy.skip ?_
    refine Sy.then_ ?_
    refine Sy.seq ?_
    refine Sy.block ?_
    refine Sy.seq ?_
    refine Sy.region ?_
    refine Sy.step (by kernel_rfl) (.int .i64 6) (Quiet.pure (fun _ => by kernel_rfl)) ?_
    refine Sy.step (by kernel_rfl) (.int .i64 6) (Quiet.pure (fun _ => by kernel_rfl)) ?_
    refine Sy.nil ?_
    refine Sy.then_ ?_
    refine Sy.seq ?_
    refine Sy.regionD (fun j => false) (by kernel_rfl) ?_
    refine Sy.stepD 0 rfl (by kernel_rfl) (fun _ _ _ _ h => h) (by kernel_rfl) (.int .i64 6) (Quiet.pure (fun _ => by kernel_rfl)) ?_
    refine Sy.stepD 1 rfl (by kernel_rfl) (fun _ _ _ _ h => h) (by kernel_rfl) (.slice (some ⟨ga, oa, none⟩) 33 c) (Quiet.pure (fun _ => by kernel_rfl)) ?_
    refine Sy.stepD 2 rfl (by kernel_rfl) (fun _ _ _ _ h => h) (by kernel_rfl) (.int .i64 33) (Quiet.pure (fun _ => by kernel_rfl)) ?_
    refine Sy.stepD 3 rfl (by kernel_rfl) (fun _ _ _ _ h => h) (by kernel_rfl) (.bool false) (Quiet.pure (fun _ => by kernel_rfl)) ?_
    refine Sy.stepD 4 rfl (by kernel_rfl) (fun _ _ _ _ h => h) (by kernel_rfl) (.bool false) (Quiet.pure (fun _ => by kernel_rfl)) ?_
    refine Sy.stepD 5 rfl (by kernel_rfl) (fun _ _ _ _ h => h) (by kernel_rfl) (.int .i64 6) (Quiet.pure (fun _ => by kernel_rfl)) ?_
    refine Sy.stepD 6 rfl (by kernel_rfl) (fun _ _ _ _ h => h) (by kernel_rfl) (.pointer (some ⟨g37, 6, none⟩)) (Quiet.pure (fun _ => by kernel_rfl)) ?_
    refine Sy.stepD 7 rfl (by kernel_rfl) (fun _ _ _ _ h => h) (by kernel_rfl) (bv (b.getD 6 0)) (Quiet.cell 0 g37 6 45 5 (b.map bv).toArray _ _ rfl (by kernel_rfl) (by kernel_rfl) Try.underlying5 rfl _ (key_at b hn 6 (by decide))) ?_
    refine Sy.stepD 8 rfl (by kernel_rfl) (fun _ _ _ _ h => h) (by kernel_rfl) (.slice (some ⟨ga, oa, none⟩) 33 c) (Quiet.pure (fun _ => by kernel_rfl)) ?_
    refine Sy.stepD 9 rfl (by kernel_rfl) (fun _ _ _ _ h => h) (by kernel_rfl) (.int .i64 6) (Quiet.pure (fun _ => by kernel_rfl)) ?_
    refine Sy.stepD 10 rfl (by kernel_rfl) (fun _ _ _ _ h => h) (by kernel_rfl) (.pointer (some ⟨ga, oa + 6, none⟩)) (Quiet.pure (fun w => exec_index 44 _ _ ga (oa) 33 (c) 6 rfl (by kernel_rfl) (by kernel_rfl) (by kernel_rfl) (fun _ => by kernel_rfl) (by decide) w)) ?_
    refine Sy.stepD 11 rfl (by kernel_rfl) (fun _ _ _ _ h => h) (by kernel_rfl) (bv (b.getD 6 0)) (Quiet.thereOne ga (oa + 6) 5 _ _ rfl (by kernel_rfl) hsl.1 _ (src_one hsl 6 _ (one_at b hn 6 (by decide))) Try.underlying5 rfl) ?_
    refine Sy.stepD 12 rfl (by kernel_rfl) (fun _ _ _ _ h => h) (by kernel_rfl) (.bool false) (Quiet.pure (fun w => neq_u8_same w _ _ _ _ (b.getD 6 0) rfl rfl rfl)) ?_
    refine Sy.stepD 13 rfl (by kernel_rfl) (fun _ _ _ _ h => h) (by kernel_rfl) (.bool false) (Quiet.pure (fun _ => by kernel_rfl)) ?_
    refine Sy.doneD (by kernel_rfl) ?_
    refine Sy.then_ ?_
    refine Sy.cond_f (by kernel_rfl) (by kernel_rfl) ?_
    refine Sy.skip ?_
    refine Sy.in_ ?_
    refine Sy.then_ ?_
    refine Sy.region ?_
    refine Sy.step (by kernel_rfl) (.int .i64 7) (Quiet.pure (fun _ => by kernel_rfl)) ?_
    refine Sy.step (by kernel_rfl) (.int .i64 7) (Quiet.pure (fun _ => by kernel_rfl)) ?_
    refine Sy.nil ?_
    refine Sy.again ?_
    refine Sy.tidyR (G := [(1, .slice (some ⟨ga, oa, none⟩) 33 c), (12, .pointer (some ⟨g37, 0, none⟩)), (55, .int .i64 7)]) (M := [(g37, 45, (b.map bv).toArray)]) [true] (by kernel_rfl) (all_cons (by kernel_rfl) (all_cons (by kernel_rfl) (all_cons (by kernel_rfl) all_nil))) ?_
    refine Sy.round ?_
    refine Sy.seq ?_
    refine Sy.region ?_
    refine Sy.step (by kernel_rfl) (.bool true) (Quiet.pure (fun _ => by kernel_rfl)) ?_
    refine Sy.nil ?_
    refine Sy.then_ ?_
    refine Sy.seq ?_
    refine Sy.cond_t (by kernel_rfl) (by kernel_rfl) ?_
    refine Sy.skip ?_
    refine Sy.then_ ?_
    refine Sy.seq ?_
    refine Sy.block ?_
    refine Sy.seq ?_
    refine Sy.region ?_
    refine Sy.step (by kernel_rfl) (.int .i64 7) (Quiet.pure (fun _ => by kernel_rfl)) ?_
    refine Sy.step (by kernel_rfl) (.int .i64 7) (Quiet.pure (fun _ => by kernel_rfl)) ?_
    refine Sy.nil ?_
    refine Sy.then_ ?_
    refine Sy.seq ?_
    refine Sy.regionD (fun j => false) (by kernel_rfl) ?_
    refine Sy.stepD 0 rfl (by kernel_rfl) (fun _ _ _ _ h => h) (by kernel_rfl) (.int .i64 7) (Quiet.pure (fun _ => by kernel_rfl)) ?_
    refine Sy.stepD 1 rfl (by kernel_rfl) (fun _ _ _ _ h => h) (by kernel_rfl) (.slice (some ⟨ga, oa, none⟩) 33 c) (Quiet.pure (fun _ => by kernel_rfl)) ?_
    refine Sy.stepD 2 rfl (by kernel_rfl) (fun _ _ _ _ h => h) (by kernel_rfl) (.int .i64 33) (Quiet.pure (fun _ => by kernel_rfl)) ?_
    refine Sy.stepD 3 rfl (by kernel_rfl) (fun _ _ _ _ h => h) (by kernel_rfl) (.bool false) (Quiet.pure (fun _ => by kernel_rfl)) ?_
    refine Sy.stepD 4 rfl (by kernel_rfl) (fun _ _ _ _ h => h) (by kernel_rfl) (.bool false) (Quiet.pure (fun _ => by kernel_rfl)) ?_
    refine Sy.stepD 5 rfl (by kernel_rfl) (fun _ _ _ _ h => h) (by kernel_rfl) (.int .i64 7) (Quiet.pure (fun _ => by kernel_rfl)) ?_
    refine Sy.stepD 6 rfl (by kernel_rfl) (fun _ _ _ _ h => h) (by kernel_rfl) (.pointer (some ⟨g37, 7, none⟩)) (Quiet.pure (fun _ => by kernel_rfl)) ?_
    refine Sy.stepD 7 rfl (by kernel_rfl) (fun _ _ _ _ h => h) (by kernel_rfl) (bv (b.getD 7 0)) (Quiet.cell 0 g37 7 45 5 (b.map bv).toArray _ _ rfl (by kernel_rfl) (by kernel_rfl) Try.underlying5 rfl _ (key_at b hn 7 (by decide))) ?_
    refine Sy.stepD 8 rfl (by kernel_rfl) (fun _ _ _ _ h => h) (by kernel_rfl) (.slice (some ⟨ga, oa, none⟩) 33 c) (Quiet.pure (fun _ => by kernel_rfl)) ?_
    refine Sy.stepD 9 rfl (by kernel_rfl) (fun _ _ _ _ h => h) (by kernel_rfl) (.int .i64 7) (Quiet.pure (fun _ => by kernel_rfl)) ?_
    refine Sy.stepD 10 rfl (by kernel_rfl) (fun _ _ _ _ h => h) (by kernel_rfl) (.pointer (some ⟨ga, oa + 7, none⟩)) (Quiet.pure (fun w => exec_index 44 _ _ ga (oa) 33 (c) 7 rfl (by kernel_rfl) (by kernel_rfl) (by kernel_rfl) (fun _ => by kernel_rfl) (by decide) w)) ?_
    refine Sy.stepD 11 rfl (by kernel_rfl) (fun _ _ _ _ h => h) (by kernel_rfl) (bv (b.getD 7 0)) (Quiet.thereOne ga (oa + 7) 5 _ _ rfl (by kernel_rfl) hsl.1 _ (src_one hsl 7 _ (one_at b hn 7 (by decide))) Try.underlying5 rfl) ?_
    refine Sy.stepD 12 rfl (by kernel_rfl) (fun _ _ _ _ h => h) (by kernel_rfl) (.bool false) (Quiet.pure (fun w => neq_u8_same w _ _ _ _ (b.getD 7 0) rfl rfl rfl)) ?_
    refine Sy.stepD 13 rfl (by kernel_rfl) (fun _ _ _ _ h => h) (by kernel_rfl) (.bool false) (Quiet.pure (fun _ => by kernel_rfl)) ?_
    refine Sy.doneD (by kernel_rfl) ?_
    refine Sy.then_ ?_
    refine Sy.cond_f (by kernel_rfl) (by kernel_rfl) ?_
    refine Sy.skip ?_
    refine Sy.in_ ?_
    refine Sy.then_ ?_
    refine Sy.region ?_
    refine Sy.step (by kernel_rfl) (.int .i64 8) (Quiet.pure (fun _ => by kernel_rfl)) ?_
    refine Sy.step (by kernel_rfl) (.int .i64 8) (Quiet.pure (fun _ => by kernel_rfl)) ?_
    refine Sy.nil ?_
    refine Sy.again ?_
    refine Sy.tidyR (G := [(1, .slice (some ⟨ga, oa, none⟩) 33 c), (12, .pointer (some ⟨g37, 0, none⟩)), (55, .int .i64 8)]) (M := [(g37, 45, (b.map bv).toArray)]) [true] (by kernel_rfl) (all_cons (by kernel_rfl) (all_cons (by kernel_rfl) (all_cons (by kernel_rfl) all_nil))) ?_
    refine Sy.round ?_
    refine Sy.seq ?_
    refine Sy.region ?_
    refine Sy.step (by kernel_rfl) (.bool true) (Quiet.pure (fun _ => by kernel_rfl)) ?_
    refine Sy.nil ?_
    refine Sy.then_ ?_
    refine Sy.seq ?_
    refine Sy.cond_t (by kernel_rfl) (by kernel_rfl) ?_
    refine Sy.skip ?_
    refine Sy.then_ ?_
    refine Sy.seq ?_
    refine Sy.block ?_
    refine Sy.seq ?_
    refine Sy.region ?_
    refine Sy.step (by kernel_rfl) (.int .i64 8) (Quiet.pure (fun _ => by kernel_rfl)) ?_
    refine Sy.step (by kernel_rfl) (.int .i64 8) (Quiet.pure (fun _ => by kernel_rfl)) ?_
    refine Sy.nil ?_
    refine Sy.then_ ?_
    refine Sy.seq ?_
    refine Sy.regionD (fun j => false) (by kernel_rfl) ?_
    refine Sy.stepD 0 rfl (by kernel_rfl) (fun _ _ _ _ h => h) (by kernel_rfl) (.int .i64 8) (Quiet.pure (fun _ => by kernel_rfl)) ?_
    refine Sy.stepD 1 rfl (by kernel_rfl) (fun _ _ _ _ h => h) (by kernel_rfl) (.slice (some ⟨ga, oa, none⟩) 33 c) (Quiet.pure (fun _ => by kernel_rfl)) ?_
    refine Sy.stepD 2 rfl (by kernel_rfl) (fun _ _ _ _ h => h) (by kernel_rfl) (.int .i64 33) (Quiet.pure (fun _ => by kernel_rfl)) ?_
    refine Sy.stepD 3 rfl (by kernel_rfl) (fun _ _ _ _ h => h) (by kernel_rfl) (.bool false) (Quiet.pure (fun _ => by kernel_rfl)) ?_
    refine Sy.stepD 4 rfl (by kernel_rfl) (fun _ _ _ _ h => h) (by kernel_rfl) (.bool false) (Quiet.pure (fun _ => by kernel_rfl)) ?_
    refine Sy.stepD 5 rfl (by kernel_rfl) (fun _ _ _ _ h => h) (by kernel_rfl) (.int .i64 8) (Quiet.pure (fun _ => by kernel_rfl)) ?_
    refine Sy.stepD 6 rfl (by kernel_rfl) (fun _ _ _ _ h => h) (by kernel_rfl) (.pointer (some ⟨g37, 8, none⟩)) (Quiet.pure (fun _ => by kernel_rfl)) ?_
    refine Sy.stepD 7 rfl (by kernel_rfl) (fun _ _ _ _ h => h) (by kernel_rfl) (bv (b.getD 8 0)) (Quiet.cell 0 g37 8 45 5 (b.map bv).toArray _ _ rfl (by kernel_rfl) (by kernel_rfl) Try.underlying5 rfl _ (key_at b hn 8 (by decide))) ?_
    refine Sy.stepD 8 rfl (by kernel_rfl) (fun _ _ _ _ h => h) (by kernel_rfl) (.slice (some ⟨ga, oa, none⟩) 33 c) (Quiet.pure (fun _ => by kernel_rfl)) ?_
    refine Sy.stepD 9 rfl (by kernel_rfl) (fun _ _ _ _ h => h) (by kernel_rfl) (.int .i64 8) (Quiet.pure (fun _ => by kernel_rfl)) ?_
    refine Sy.stepD 10 rfl (by kernel_rfl) (fun _ _ _ _ h => h) (by kernel_rfl) (.pointer (some ⟨ga, oa + 8, none⟩)) (Quiet.pure (fun w => exec_index 44 _ _ ga (oa) 33 (c) 8 rfl (by kernel_rfl) (by kernel_rfl) (by kernel_rfl) (fun _ => by kernel_rfl) (by decide) w)) ?_
    refine Sy.stepD 11 rfl (by kernel_rfl) (fun _ _ _ _ h => h) (by kernel_rfl) (bv (b.getD 8 0)) (Quiet.thereOne ga (oa + 8) 5 _ _ rfl (by kernel_rfl) hsl.1 _ (src_one hsl 8 _ (one_at b hn 8 (by decide))) Try.underlying5 rfl) ?_
    refine Sy.stepD 12 rfl (by kernel_rfl) (fun _ _ _ _ h => h) (by kernel_rfl) (.bool false) (Quiet.pure (fun w => neq_u8_same w _ _ _ _ (b.getD 8 0) rfl rfl rfl)) ?_
    refine Sy.stepD 13 rfl (by kernel_rfl) (fun _ _ _ _ h => h) (by kernel_rfl) (.bool false) (Quiet.pure (fun _ => by kernel_rfl)) ?_
    refine Sy.doneD (by kernel_rfl) ?_
    refine Sy.then_ ?_
    refine Sy.cond_f (by kernel_rfl) (by kernel_rfl) ?_
    refine Sy.skip ?_
    refine Sy.in_ ?_
    refine Sy.then_ ?_
    refine Sy.region ?_
    refine Sy.step (by kernel_rfl) (.int .i64 9) (Quiet.pure (fun _ => by kernel_rfl)) ?_
    refine Sy.step (by kernel_rfl) (.int .i64 9) (Quiet.pure (fun _ => by kernel_rfl)) ?_
    refine Sy.nil ?_
    refine Sy.again ?_
    refine Sy.tidyR (G := [(1, .slice (some ⟨ga, oa, none⟩) 33 c), (12, .pointer (some ⟨g37, 0, none⟩)), (55, .int .i64 9)]) (M := [(g37, 45, (b.map bv).toArray)]) [true] (by kernel_rfl) (all_cons (by kernel_rfl) (all_cons (by kernel_rfl) (all_cons (by kernel_rfl) all_nil))) ?_
    refine Sy.round ?_
    refine Sy.seq ?_
    refine Sy.region ?_
    refine Sy.step (by kernel_rfl) (.bool true) (Quiet.pure (fun _ => by kernel_rfl)) ?_
    refine Sy.nil ?_
    refine Sy.then_ ?_
    refine Sy.seq ?_
    refine Sy.cond_t (by kernel_rfl) (by kernel_rfl) ?_
    refine Sy.skip ?_
    refine Sy.then_ ?_
    refine Sy.seq ?_
    refine Sy.block ?_
    refine Sy.seq ?_
    refine Sy.region ?_
    refine Sy.step (by kernel_rfl) (.int .i64 9) (Quiet.pure (fun _ => by kernel_rfl)) ?_
    refine Sy.step (by kernel_rfl) (.int .i64 9) (Quiet.pure (fun _ => by kernel_rfl)) ?_
    refine Sy.nil ?_
    refine Sy.then_ ?_
    refine Sy.seq ?_
    refine Sy.regionD (fun j => false) (by kernel_rfl) ?_
    refine Sy.stepD 0 rfl (by kernel_rfl) (fun _ _ _ _ h => h) (by kernel_rfl) (.int .i64 9) (Quiet.pure (fun _ => by kernel_rfl)) ?_
    refine Sy.stepD 1 rfl (by kernel_rfl) (fun _ _ _ _ h => h) (by kernel_rfl) (.slice (some ⟨ga, oa, none⟩) 33 c) (Quiet.pure (fun _ => by kernel_rfl)) ?_
    refine Sy.stepD 2 rfl (by kernel_rfl) (fun _ _ _ _ h => h) (by kernel_rfl) (.int .i64 33) (Quiet.pure (fun _ => by kernel_rfl)) ?_
    refine Sy.stepD 3 rfl (by kernel_rfl) (fun _ _ _ _ h => h) (by kernel_rfl) (.bool false) (Quiet.pure (fun _ => by kernel_rfl)) ?_
    refine Sy.stepD 4 rfl (by kernel_rfl) (fun _ _ _ _ h => h) (by kernel_rfl) (.bool false) (Quiet.pure (fun _ => by kernel_rfl)) ?_
    refine Sy.stepD 5 rfl (by kernel_rfl) (fun _ _ _ _ h => h) (by kernel_rfl) (.int .i64 9) (Quiet.pure (fun _ => by kernel_rfl)) ?_
    refine Sy.stepD 6 rfl (by kernel_rfl) (fun _ _ _ _ h => h) (by kernel_rfl) (.pointer (some ⟨g37, 9, none⟩)) (Quiet.pure (fun _ => by kernel_rfl)) ?_
    refine Sy.stepD 7 rfl (by kernel_rfl) (fun _ _ _ _ h => h) (by kernel_rfl) (bv (b.getD 9 0)) (Quiet.cell 0 g37 9 45 5 (b.map bv).toArray _ _ rfl (by kernel_rfl) (by kernel_rfl) Try.underlying5 rfl _ (key_at b hn 9 (by decide))) ?_
    refine Sy.stepD 8 rfl (by kernel_rfl) (fun _ _ _ _ h => h) (by kernel_rfl) (.slice (some ⟨ga, oa, none⟩) 33 c) (Quiet.pure (fun _ => by kernel_rfl)) ?_
    refine Sy.stepD 9 rfl (by kernel_rfl) (fun _ _ _ _ h => h) (by kernel_rfl) (.int .i64 9) (Quiet.pure (fun _ => by kernel_rfl)) ?_
    refine Sy.stepD 10 rfl (by kernel_rfl) (fun _ _ _ _ h => h) (by kernel_rfl) (.pointer (some ⟨ga, oa + 9, none⟩)) (Quiet.pure (fun w => exec_index 44 _ _ ga (oa) 33 (c) 9 rfl (by kernel_rfl) (by kernel_rfl) (by kernel_rfl) (fun _ => by kernel_rfl) (by decide) w)) ?_
    refine Sy.stepD 11 rfl (by kernel_rfl) (fun _ _ _ _ h => h) (by kernel_rfl) (bv (b.getD 9 0)) (Quiet.thereOne ga (oa + 9) 5 _ _ rfl (by kernel_rfl) hsl.1 _ (src_one hsl 9 _ (one_at b hn 9 (by decide))) Try.underlying5 rfl) ?_
    refine Sy.stepD 12 rfl (by kernel_rfl) (fun _ _ _ _ h => h) (by kernel_rfl) (.bool false) (Quiet.pure (fun w => neq_u8_same w _ _ _ _ (b.getD 9 0) rfl rfl rfl)) ?_
    refine Sy.stepD 13 rfl (by kernel_rfl) (fun _ _ _ _ h => h) (by kernel_rfl) (.bool false) (Quiet.pure (fun _ => by kernel_rfl)) ?_
    refine Sy.doneD (by kernel_rfl) ?_
    refine Sy.then_ ?_
    refine Sy.cond_f (by kernel_rfl) (by kernel_rfl) ?_
    refine Sy.skip ?_
    refine Sy.in_ ?_
    refine Sy.then_ ?_
    refine Sy.region ?_
    refine Sy.step (by kernel_rfl) (.int .i64 10) (Quiet.pure (fun _ => by kernel_rfl)) ?_
    refine Sy.step (by kernel_rfl) (.int .i64 10) (Quiet.pure (fun _ => by kernel_rfl)) ?_
    refine Sy.nil ?_
    refine Sy.again ?_
    refine Sy.tidyR (G := [(1, .slice (some ⟨ga, oa, none⟩) 33 c), (12, .pointer (some ⟨g37, 0, none⟩)), (55, .int .i64 10)]) (M := [(g37, 45, (b.map bv).toArray)]) [true] (by kernel_rfl) (all_cons (by kernel_rfl) (all_cons (by kernel_rfl) (all_cons (by kernel_rfl) all_nil))) ?_
    refine Sy.round ?_
    refine Sy.seq ?_
    refine Sy.region ?_
    refine Sy.step (by kernel_rfl) (.bool true) (Quiet.pure (fun _ => by kernel_rfl)) ?_
    refine Sy.nil ?_
    refine Sy.then_ ?_
    refine Sy.seq ?_
    refine Sy.cond_t (by kernel_rfl) (by kernel_rfl) ?_
    refine Sy.skip ?_
    refine Sy.then_ ?_
    refine Sy.seq ?_
    refine Sy.block ?_
    refine Sy.seq ?_
    refine Sy.region ?_
    refine Sy.step (by kernel_rfl) (.int .i64 10) (Quiet.pure (fun _ => by kernel_rfl)) ?_
    refine Sy.step (by kernel_rfl) (.int .i64 10) (Quiet.pure (fun _ => by kernel_rfl)) ?_
    refine Sy.nil ?_
    refine Sy.then_ ?_
    refine Sy.seq ?_
    refine Sy.regionD (fun j => false) (by kernel_rfl) ?_
    refine Sy.stepD 0 rfl (by kernel_rfl) (fun _ _ _ _ h => h) (by kernel_rfl) (.int .i64 10) (Quiet.pure (fun _ => by kernel_rfl)) ?_
    refine Sy.stepD 1 rfl (by kernel_rfl) (fun _ _ _ _ h => h) (by kernel_rfl) (.slice (some ⟨ga, oa, none⟩) 33 c) (Quiet.pure (fun _ => by kernel_rfl)) ?_
    refine Sy.stepD 2 rfl (by kernel_rfl) (fun _ _ _ _ h => h) (by kernel_rfl) (.int .i64 33) (Quiet.pure (fun _ => by kernel_rfl)) ?_
    refine Sy.stepD 3 rfl (by kernel_rfl) (fun _ _ _ _ h => h) (by kernel_rfl) (.bool false) (Quiet.pure (fun _ => by kernel_rfl)) ?_
    refine Sy.stepD 4 rfl (by kernel_rfl) (fun _ _ _ _ h => h) (by kernel_rfl) (.bool false) (Quiet.pure (fun _ => by kernel_rfl)) ?_
    refine Sy.stepD 5 rfl (by kernel_rfl) (fun _ _ _ _ h => h) (by kernel_rfl) (.int .i64 10) (Quiet.pure (fun _ => by kernel_rfl)) ?_
    refine Sy.stepD 6 rfl (by kernel_rfl) (fun _ _ _ _ h => h) (by kernel_rfl) (.pointer (some ⟨g37, 10, none⟩)) (Quiet.pure (fun _ => by kernel_rfl)) ?_
    refine Sy.stepD 7 rfl (by kernel_rfl) (fun _ _ _ _ h => h) (by kernel_rfl) (bv (b.getD 10 0)) (Quiet.cell 0 g37 10 45 5 (b.map bv).toArray _ _ rfl (by kernel_rfl) (by kernel_rfl) Try.underlying5 rfl _ (key_at b hn 10 (by decide))) ?_
    refine Sy.stepD 8 rfl (by kernel_rfl) (fun _ _ _ _ h => h) (by kernel_rfl) (.slice (some ⟨ga, oa, none⟩) 33 c) (Quiet.pure (fun _ => by kernel_rfl)) ?_
    refine Sy.stepD 9 rfl (by kernel_rfl) (fun _ _ _ _ h => h) (by kernel_rfl) (.int .i64 10) (Quiet.pure (fun _ => by kernel_rfl)) ?_
    refine Sy.stepD 10 rfl (by kernel_rfl) (fun _ _ _ _ h => h) (by kernel_rfl) (.pointer (some ⟨ga, oa + 10, none⟩)) (Quiet.pure (fun w => exec_index 44 _ _ ga (oa) 33 (c) 10 rfl (by kernel_rfl) (by kernel_rfl) (by kernel_rfl) (fun _ => by kernel_rfl) (by decide) w)) ?_
    refine Sy.stepD 11 rfl (by kernel_rfl) (fun _ _ _ _ h => h) (by kernel_rfl) (bv (b.getD 10 0)) (Quiet.thereOne ga (oa + 10) 5 _ _ rfl (by kernel_rfl) hsl.1 _ (src_one hsl 10 _ (one_at b hn 10 (by decide))) Try.underlying5 rfl) ?_
    refine Sy.stepD 12 rfl (by kernel_rfl) (fun _ _ _ _ h => h) (by kernel_rfl) (.bool false) (Quiet.pure (fun w => neq_u8_same w _ _ _ _ (b.getD 10 0) rfl rfl rfl)) ?_
    refine Sy.stepD 13 rfl (by kernel_rfl) (fun _ _ _ _ h => h) (by kernel_rfl) (.bool false) (Quiet.pure (fun _ => by kernel_rfl)) ?_
    refine Sy.doneD (by kernel_rfl) ?_
    refine Sy.then_ ?_
    refine Sy.cond_f (by kernel_rfl) (by kernel_rfl) ?_
    refine Sy.skip ?_
    refine Sy.in_ ?_
    refine Sy.then_ ?_
    refine Sy.region ?_
    refine Sy.step (by kernel_rfl) (.int .i64 11) (Quiet.pure (fun _ => by kernel_rfl)) ?_
    refine Sy.step (by kernel_rfl) (.int .i64 11) (Quiet.pure (fun _ => by kernel_rfl)) ?_
    refine Sy.nil ?_
    refine Sy.again ?_
    refine Sy.tidyR (G := [(1, .slice (some ⟨ga, oa, none⟩) 33 c), (12, .pointer (some ⟨g37, 0, none⟩)), (55, .int .i64 11)]) (M := [(g37, 45, (b.map bv).toArray)]) [true] (by kernel_rfl) (all_cons (by kernel_rfl) (all_cons (by kernel_rfl) (all_cons (by kernel_rfl) all_nil))) ?_
    refine Sy.round ?_
    refine Sy.seq ?_
    refine Sy.region ?_
    refine Sy.step (by kernel_rfl) (.bool true) (Quiet.pure (fun _ => by kernel_rfl)) ?_
    refine Sy.nil ?_
    refine Sy.then_ ?_
    refine Sy.seq ?_
    refine Sy.cond_t (by kernel_rfl) (by kernel_rfl) ?_
    refine Sy.skip ?_
    refine Sy.then_ ?_
    refine Sy.seq ?_
    refine Sy.block ?_
    refine Sy.seq ?_
    refine Sy.region ?_
    refine Sy.step (by kernel_rfl) (.int .i64 11) (Quiet.pure (fun _ => by kernel_rfl)) ?_
    refine Sy.step (by kernel_rfl) (.int .i64 11) (Quiet.pure (fun _ => by kernel_rfl)) ?_
    refine Sy.nil ?_
    refine Sy.then_ ?_
    refine Sy.seq ?_
    refine Sy.regionD (fun j => false) (by kernel_rfl) ?_
    refine Sy.stepD 0 rfl (by kernel_rfl) (fun _ _ _ _ h => h) (by kernel_rfl) (.int .i64 11) (Quiet.pure (fun _ => by kernel_rfl)) ?_
    refine Sy.stepD 1 rfl (by kernel_rfl) (fun _ _ _ _ h => h) (by kernel_rfl) (.slice (some ⟨ga, oa, none⟩) 33 c) (Quiet.pure (fun _ => by kernel_rfl)) ?_
    refine Sy.stepD 2 rfl (by kernel_rfl) (fun _ _ _ _ h => h) (by kernel_rfl) (.int .i64 33) (Quiet.pure (fun _ => by kernel_rfl)) ?_
    refine Sy.stepD 3 rfl (by kernel_rfl) (fun _ _ _ _ h => h) (by kernel_rfl) (.bool false) (Quiet.pure (fun _ => by kernel_rfl)) ?_
    refine Sy.stepD 4 rfl (by kernel_rfl) (fun _ _ _ _ h => h) (by kernel_rfl) (.bool false) (Quiet.pure (fun _ => by kernel_rfl)) ?_
    refine Sy.stepD 5 rfl (by kernel_rfl) (fun _ _ _ _ h => h) (by kernel_rfl) (.int .i64 11) (Quiet.pure (fun _ => by kernel_rfl)) ?_
    refine Sy.stepD 6 rfl (by kernel_rfl) (fun _ _ _ _ h => h) (by kernel_rfl) (.pointer (some ⟨g37, 11, none⟩)) (Quiet.pure (fun _ => by kernel_rfl)) ?_
    refine Sy.stepD 7 rfl (by kernel_rfl) (fun _ _ _ _ h => h) (by kernel_rfl) (bv (b.getD 11 0)) (Quiet.cell 0 g37 11 45 5 (b.map bv).toArray _ _ rfl (by kernel_rfl) (by kernel_rfl) Try.underlying5 rfl _ (key_at b hn 11 (by decide))) ?_
    refine Sy.stepD 8 rfl (by kernel_rfl) (fun _ _ _ _ h => h) (by kernel_rfl) (.slice (some ⟨ga, oa, none⟩) 33 c) (Quiet.pure (fun _ => by kernel_rfl)) ?_
    refine Sy.stepD 9 rfl (by kernel_rfl) (fun _ _ _ _ h => h) (by kernel_rfl) (.int .i64 11) (Quiet.pure (fun _ => by kernel_rfl)) ?_
    refine Sy.stepD 10 rfl (by kernel_rfl) (fun _ _ _ _ h => h) (by kernel_rfl) (.pointer (some ⟨ga, oa + 11, none⟩)) (Quiet.pure (fun w => exec_index 44 _ _ ga (oa) 33 (c) 11 rfl (by kernel_rfl) (by kernel_rfl) (by kernel_rfl) (fun _ => by kernel_rfl) (by decide) w)) ?_
    refine Sy.stepD 11 rfl (by kernel_rfl) (fun _ _ _ _ h => h) (by kernel_rfl) (bv (b.getD 11 0)) (Quiet.thereOne ga (oa + 11) 5 _ _ rfl (by kernel_rfl) hsl.1 _ (src_one hsl 11 _ (one_at b hn 11 (by decide))) Try.underlying5 rfl) ?_
    refine Sy.stepD 12 rfl (by kernel_rfl) (fun _ _ _ _ h => h) (by kernel_rfl) (.bool false) (Quiet.pure (fun w => neq_u8_same w _ _ _ _ (b.getD 11 0) rfl rfl rfl)) ?_
    refine Sy.stepD 13 rfl (by kernel_rfl) (fun _ _ _ _ h => h) (by kernel_rfl) (.bool false) (Quiet.pure (fun _ => by kernel_rfl)) ?_
    refine Sy.doneD (by kernel_rfl) ?_
    refine Sy.then_ ?_
    refine Sy.cond_f (by kernel_rfl) (by kernel_rfl) ?_
    refine Sy.skip ?_
    refine Sy.in_ ?_
    refine Sy.then_ ?_
    refine Sy.region ?_
    refine Sy.step (by kernel_rfl) (.int .i64 12) (Quiet.pure (fun _ => by kernel_rfl)) ?_
    refine Sy.step (by kernel_rfl) (.int .i64 12) (Quiet.pure (fun _ => by kernel_rfl)) ?_
    refine Sy.nil ?_
    refine Sy.again ?_
    refine Sy.tidyR (G := [(1, .slice (some ⟨ga, oa, none⟩) 33 c), (12, .pointer (some ⟨g37, 0, none⟩)), (55, .int .i64 12)]) (M := [(g37, 45, (b.map bv).toArray)]) [true] (by kernel_rfl) (all_cons (by kernel_rfl) (all_cons (by kernel_rfl) (all_cons (by kernel_rfl) all_nil))) ?_
    refine Sy.round ?_
    refine Sy.seq ?_
    refine Sy.region ?_
    refine Sy.step (by kernel_rfl) (.bool true) (Quiet.pure (fun _ => by kernel_rfl)) ?_
    refine Sy.nil ?_
    refine Sy.then_ ?_
    refine Sy.seq ?_
    refine Sy.cond_t (by kernel_rfl) (by kernel_rfl) ?_
    refine Sy.skip ?_
    refine Sy.then_ ?_
    refine Sy.seq ?_
    refine Sy.block ?_
    refine Sy.seq ?_
    refine Sy.region ?_
    refine Sy.step (by kernel_rfl) (.int .i64 12) (Quiet.pure (fun _ => by kernel_rfl)) ?_
    refine Sy.step (by kernel_rfl) (.int .i64 12) (Quiet.pure (fun _ => by kernel_rfl)) ?_
    refine Sy.nil ?_
    refine Sy.then_ ?_
    refine Sy.seq ?_
    refine Sy.regionD (fun j => false) (by kernel_rfl) ?_
    refine Sy.stepD 0 rfl (by kernel_rfl) (fun _ _ _ _ h => h) (by kernel_rfl) (.int .i64 12) (Quiet.pure (fun _ => by kernel_rfl)) ?_
    refine Sy.stepD 1 rfl (by kernel_rfl) (fun _ _ _ _ h => h) (by kernel_rfl) (.slice (some ⟨ga, oa, none⟩) 33 c) (Quiet.pure (fun _ => by kernel_rfl)) ?_
    refine Sy.stepD 2 rfl (by kernel_rfl) (fun _ _ _ _ h => h) (by kernel_rfl) (.int .i64 33) (Quiet.pure (fun _ => by kernel_rfl)) ?_
    refine Sy.stepD 3 rfl (by kernel_rfl) (fun _ _ _ _ h => h) (by kernel_rfl) (.bool false) (Quiet.pure (fun _ => by kernel_rfl)) ?_
    refine Sy.stepD 4 rfl (by kernel_rfl) (fun _ _ _ _ h => h) (by kernel_rfl) (.bool false) (Quiet.pure (fun _ => by kernel_rfl)) ?_
    refine Sy.stepD 5 rfl (by kernel_rfl) (fun _ _ _ _ h => h) (by kernel_rfl) (.int .i64 12) (Quiet.pure (fun _ => by kernel_rfl)) ?_
    refine Sy.stepD 6 rfl (by kernel_rfl) (fun _ _ _ _ h => h) (by kernel_rfl) (.pointer (some ⟨g37, 12, none⟩)) (Quiet.pure (fun _ => by kernel_rfl)) ?_
    refine Sy.stepD 7 rfl (by kernel_rfl) (fun _ _ _ _ h => h) (by kernel_rfl) (bv (b.getD 12 0)) (Quiet.cell 0 g37 12 45 5 (b.map bv).toArray _ _ rfl (by kernel_rfl) (by kernel_rfl) Try.underlying5 rfl _ (key_at b hn 12 (by decide))) ?_
    refine Sy.stepD 8 rfl (by kernel_rfl) (fun _ _ _ _ h => h) (by kernel_rfl) (.slice (some ⟨ga, oa, none⟩) 33 c) (Quiet.pure (fun _ => by kernel_rfl)) ?_
    refine Sy.stepD 9 rfl (by kernel_rfl) (fun _ _ _ _ h => h) (by kernel_rfl) (.int .i64 12) (Quiet.pure (fun _ => by kernel_rfl)) ?_
    refine Sy.stepD 10 rfl (by kernel_rfl) (fun _ _ _ _ h => h) (by kernel_rfl) (.pointer (some ⟨ga, oa + 12, none⟩)) (Quiet.pure (fun w => exec_index 44 _ _ ga (oa) 33 (c) 12 rfl (by kernel_rfl) (by kernel_rfl) (by kernel_rfl) (fun _ => by kernel_rfl) (by decide) w)) ?_
    refine Sy.stepD 11 rfl (by kernel_rfl) (fun _ _ _ _ h => h) (by kernel_rfl) (bv (b.getD 12 0)) (Quiet.thereOne ga (oa + 12) 5 _ _ rfl (by kernel_rfl) hsl.1 _ (src_one hsl 12 _ (one_at b hn 12 (by decide))) Try.underlying5 rfl) ?_
    refine Sy.stepD 12 rfl (by kernel_rfl) (fun _ _ _ _ h => h) (by kernel_rfl) (.bool false) (Quiet.pure (fun w => neq_u8_same w _ _ _ _ (b.getD 12 0) rfl rfl rfl)) ?_
    refine Sy.stepD 13 rfl (by kernel_rfl) (fun _ _ _ _ h => h) (by kernel_rfl) (.bool false) (Quiet.pure (fun _ => by kernel_rfl)) ?_
    refine Sy.doneD (by kernel_rfl) ?_
    refine Sy.then_ ?_
    refine Sy.cond_f (by kernel_rfl) (by kernel_rfl) ?_
    refine Sy.skip ?_
    refine Sy.in_ ?_
    refine Sy.then_ ?_
    refine Sy.region ?_
    refine Sy.step (by kernel_rfl) (.int .i64 13) (Quiet.pure (fun _ => by kernel_rfl)) ?_
    refine Sy.step (by kernel_rfl) (.int .i64 13) (Quiet.pure (fun _ => by kernel_rfl)) ?_
    refine Sy.nil ?_
    refine Sy.again ?_
    refine Sy.tidyR (G := [(1, .slice (some ⟨ga, oa, none⟩) 33 c), (12, .pointer (some ⟨g37, 0, none⟩)), (55, .int .i64 13)]) (M := [(g37, 45, (b.map bv).toArray)]) [true] (by kernel_rfl) (all_cons (by kernel_rfl) (all_cons (by kernel_rfl) (all_cons (by kernel_rfl) all_nil))) ?_
    refine Sy.round ?_
    refine Sy.seq ?_
    refine Sy.region ?_
    refine Sy.step (by kernel_rfl) (.bool true) (Quiet.pure (fun _ => by kernel_rfl)) ?_
    refine Sy.nil ?_
    refine Sy.then_ ?_
    refine Sy.seq ?_
    refine Sy.cond_t (by kernel_rfl) (by kernel_rfl) ?_
    refine Sy.skip ?_
    refine Sy.then_ ?_
    refine Sy.seq ?_
    refine Sy.block ?_
    refine Sy.seq ?_
    refine Sy.region ?_
    refine Sy.step (by kernel_rfl) (.int .i64 13) (Quiet.pure (fun _ => by kernel_rfl)) ?_
    refine Sy.step (by kernel_rfl) (.int .i64 13) (Quiet.pure (fun _ => by kernel_rfl)) ?_
    refine Sy.nil ?_
    refine Sy.then_ ?_
    refine Sy.seq ?_
    refine Sy.regionD (fun j => false) (by kernel_rfl) ?_
    refine Sy.stepD 0 rfl (by kernel_rfl) (fun _ _ _ _ h => h) (by kernel_rfl) (.int .i64 13) (Quiet.pure (fun _ => by kernel_rfl)) ?_
    refine Sy.stepD 1 rfl (by kernel_rfl) (fun _ _ _ _ h => h) (by kernel_rfl) (.slice (some ⟨ga, oa, none⟩) 33 c) (Quiet.pure (fun _ => by kernel_rfl)) ?_
    refine Sy.stepD 2 rfl (by kernel_rfl) (fun _ _ _ _ h => h) (by kernel_rfl) (.int .i64 33) (Quiet.pure (fun _ => by kernel_rfl)) ?_
    refine Sy.stepD 3 rfl (by kernel_rfl) (fun _ _ _ _ h => h) (by kernel_rfl) (.bool false) (Quiet.pure (fun _ => by kernel_rfl)) ?_
    refine Sy.stepD 4 rfl (by kernel_rfl) (fun _ _ _ _ h => h) (by kernel_rfl) (.bool false) (Quiet.pure (fun _ => by kernel_rfl)) ?_
    refine Sy.stepD 5 rfl (by kernel_rfl) (fun _ _ _ _ h => h) (by kernel_rfl) (.int .i64 13) (Quiet.pure (fun _ => by kernel_rfl)) ?_
    refine Sy.stepD 6 rfl (by kernel_rfl) (fun _ _ _ _ h => h) (by kernel_rfl) (.pointer (some ⟨g37, 13, none⟩)) (Quiet.pure (fun _ => by kernel_rfl)) ?_
    refine Sy.stepD 7 rfl (by kernel_rfl) (fun _ _ _ _ h => h) (by kernel_rfl) (bv (b.getD 13 0)) (Quiet.cell 0 g37 13 45 5 (b.map bv).toArray _ _ rfl (by kernel_rfl) (by kernel_rfl) Try.underlying5 rfl _ (key_at b hn 13 (by decide))) ?_
    refine Sy.stepD 8 rfl (by kernel_rfl) (fun _ _ _ _ h => h) (by kernel_rfl) (.slice (some ⟨ga, oa, none⟩) 33 c) (Quiet.pure (fun _ => by kernel_rfl)) ?_
    refine Sy.stepD 9 rfl (by kernel_rfl) (fun _ _ _ _ h => h) (by kernel_rfl) (.int .i64 13) (Quiet.pure (fun _ => by kernel_rfl)) ?_
    refine Sy.stepD 10 rfl (by kernel_rfl) (fun _ _ _ _ h => h) (by kernel_rfl) (.pointer (some ⟨ga, oa + 13, none⟩)) (Quiet.pure (fun w => exec_index 44 _ _ ga (oa) 33 (c) 13 rfl (by kernel_rfl) (by kernel_rfl) (by kernel_rfl) (fun _ => by kernel_rfl) (by decide) w)) ?_
    refine Sy.stepD 11 rfl (by kernel_rfl) (fun _ _ _ _ h => h) (by kernel_rfl) (bv (b.getD 13 0)) (Quiet.thereOne ga (oa + 13) 5 _ _ rfl (by kernel_rfl) hsl.1 _ (src_one hsl 13 _ (one_at b hn 13 (by decide))) Try.underlying5 rfl) ?_
    refine Sy.stepD 12 rfl (by kernel_rfl) (fun _ _ _ _ h => h) (by kernel_rfl) (.bool false) (Quiet.pure (fun w => neq_u8_same w _ _ _ _ (b.getD 13 0) rfl rfl rfl)) ?_
    refine Sy.stepD 13 rfl (by kernel_rfl) (fun _ _ _ _ h => h) (by kernel_rfl) (.bool false) (Quiet.pure (fun _ => by kernel_rfl)) ?_
    refine Sy.doneD (by kernel_rfl) ?_
    refine Sy.then_ ?_
    refine Sy.cond_f (by kernel_rfl) (by kernel_rfl) ?_
    refine Sy.skip ?_
    refine Sy.in_ ?_
    refine Sy.then_ ?_
    refine Sy.region ?_
    refine Sy.step (by kernel_rfl) (.int .i64 14) (Quiet.pure (fun _ => by kernel_rfl)) ?_
    refine Sy.step (by kernel_rfl) (.int .i64 14) (Quiet.pure (fun _ => by kernel_rfl)) ?_
    refine Sy.nil ?_
    refine Sy.again ?_
    refine Sy.tidyR (G := [(1, .slice (some ⟨ga, oa, none⟩) 33 c), (12, .pointer (some ⟨g37, 0, none⟩)), (55, .int .i64 14)]) (M := [(g37, 45, (b.map bv).toArray)]) [true] (by kernel_rfl) (all_cons (by kernel_rfl) (all_cons (by kernel_rfl) (all_cons (by kernel_rfl) all_nil))) ?_
    refine Sy.round ?_
    refine Sy.seq ?_
    refine Sy.region ?_
    refine Sy.step (by kernel_rfl) (.bool true) (Quiet.pure (fun _ => by kernel_rfl)) ?_
    refine Sy.nil ?_
    refine Sy.then_ ?_
    refine Sy.seq ?_
    refine Sy.cond_t (by kernel_rfl) (by kernel_rfl) ?_
    refine Sy.skip ?_
    refine Sy.then_ ?_
    refine Sy.seq ?_
    refine Sy.block ?_
    refine Sy.seq ?_
    refine Sy.region ?_
    refine Sy.step (by kernel_rfl) (.int .i64 14) (Quiet.pure (fun _ => by kernel_rfl)) ?_
    refine Sy.step (by kernel_rfl) (.int .i64 14) (Quiet.pure (fun _ => by kernel_rfl)) ?_
    refine Sy.nil ?_
    refine Sy.then_ ?_
    refine Sy.seq ?_
    refine Sy.regionD (fun j => false) (by kernel_rfl) ?_
    refine Sy.stepD 0 rfl (by kernel_rfl) (fun _ _ _ _ h => h) (by kernel_rfl) (.int .i64 14) (Quiet.pure (fun _ => by kernel_rfl)) ?_
    refine Sy.stepD 1 rfl (by kernel_rfl) (fun _ _ _ _ h => h) (by kernel_rfl) (.slice (some ⟨ga, oa, none⟩) 33 c) (Quiet.pure (fun _ => by kernel_rfl)) ?_
    refine Sy.stepD 2 rfl (by kernel_rfl) (fun _ _ _ _ h => h) (by kernel_rfl) (.int .i64 33) (Quiet.pure (fun _ => by kernel_rfl)) ?_
    refine Sy.stepD 3 rfl (by kernel_rfl) (fun _ _ _ _ h => h) (by kernel_rfl) (.bool false) (Quiet.pure (fun _ => by kernel_rfl)) ?_
    refine Sy.stepD 4 rfl (by kernel_rfl) (fun _ _ _ _ h => h) (by kernel_rfl) (.bool false) (Quiet.pure (fun _ => by kernel_rfl)) ?_
    refine Sy.stepD 5 rfl (by kernel_rfl) (fun _ _ _ _ h => h) (by kernel_rfl) (.int .i64 14) (Quiet.pure (fun _ => by kernel_rfl)) ?_
    refine Sy.stepD 6 rfl (by kernel_rfl) (fun _ _ _ _ h => h) (by kernel_rfl) (.pointer (some ⟨g37, 14, none⟩)) (Quiet.pure (fun _ => by kernel_rfl)) ?_
    refine Sy.stepD 7 rfl (by kernel_rfl) (fun _ _ _ _ h => h) (by kernel_rfl) (bv (b.getD 14 0)) (Quiet.cell 0 g37 14 45 5 (b.map bv).toArray _ _ rfl (by kernel_rfl) (by kernel_rfl) Try.underlying5 rfl _ (key_at b hn 14 (by decide))) ?_
    refine Sy.stepD 8 rfl (by kernel_rfl) (fun _ _ _ _ h => h) (by kernel_rfl) (.slice (some ⟨ga, oa, none⟩) 33 c) (Quiet.pure (fun _ => by kernel_rfl)) ?_
    refine Sy.stepD 9 rfl (by kernel_rfl) (fun _ _ _ _ h => h) (by kernel_rfl) (.int .i64 14) (Quiet.pure (fun _ => by kernel_rfl)) ?_
    refine Sy.stepD 10 rfl (by kernel_rfl) (fun _ _ _ _ h => h) (by kernel_rfl) (.pointer (some ⟨ga, oa + 14, none⟩)) (Quiet.pure (fun w => exec_index 44 _ _ ga (oa) 33 (c) 14 rfl (by kernel_rfl) (by kernel_rfl) (by kernel_rfl) (fun _ => by kernel_rfl) (by decide) w)) ?_
    refine Sy.stepD 11 rfl (by kernel_rfl) (fun _ _ _ _ h => h) (by kernel_rfl) (bv (b.getD 14 0)) (Quiet.thereOne ga (oa + 14) 5 _ _ rfl (by kernel_rfl) hsl.1 _ (src_one hsl 14 _ (one_at b hn 14 (by decide))) Try.underlying5 rfl) ?_
    refine Sy.stepD 12 rfl (by kernel_rfl) (fun _ _ _ _ h => h) (by kernel_rfl) (.bool false) (Quiet.pure (fun w => neq_u8_same w _ _ _ _ (b.getD 14 0) rfl rfl rfl)) ?_
    refine Sy.stepD 13 rfl (by kernel_rfl) (fun _ _ _ _ h => h) (by kernel_rfl) (.bool false) (Quiet.pure (fun _ => by kernel_rfl)) ?_
    refine Sy.doneD (by kernel_rfl) ?_
    refine Sy.then_ ?_
    refine Sy.cond_f (by kernel_rfl) (by kernel_rfl) ?_
    refine Sy.skip ?_
    refine Sy.in_ ?_
    refine Sy.then_ ?_
    refine Sy.region ?_
    refine Sy.step (by kernel_rfl) (.int .i64 15) (Quiet.pure (fun _ => by kernel_rfl)) ?_
    refine Sy.step (by kernel_rfl) (.int .i64 15) (Quiet.pure (fun _ => by kernel_rfl)) ?_
    refine Sy.nil ?_
    refine Sy.again ?_
    refine Sy.tidyR (G := [(1, .slice (some ⟨ga, oa, none⟩) 33 c), (12, .pointer (some ⟨g37, 0, none⟩)), (55, .int .i64 15)]) (M := [(g37, 45, (b.map bv).toArray)]) [true] (by kernel_rfl) (all_cons (by kernel_rfl) (all_cons (by kernel_rfl) (all_cons (by kernel_rfl) all_nil))) ?_
    refine Sy.round ?_
    refine Sy.seq ?_
    refine Sy.region ?_
    refine Sy.step (by kernel_rfl) (.bool true) (Quiet.pure (fun _ => by kernel_rfl)) ?_
    refine Sy.nil ?_
    refine Sy.then_ ?_
    refine Sy.seq ?_
    refine Sy.cond_t (by kernel_rfl) (by kernel_rfl) ?_
    refine Sy.skip ?_
    refine Sy.then_ ?_
    refine Sy.seq ?_
    refine Sy.block ?_
    refine Sy.seq ?_
    refine Sy.region ?_
    refine Sy.step (by kernel_rfl) (.int .i64 15) (Quiet.pure (fun _ => by kernel_rfl)) ?_
    refine Sy.step (by kernel_rfl) (.int .i64 15) (Quiet.pure (fun _ => by kernel_rfl)) ?_
    refine Sy.nil ?_
    refine Sy.then_ ?_
    refine Sy.seq ?_
    refine Sy.regionD (fun j => false) (by kernel_rfl) ?_
    refine Sy.stepD 0 rfl (by kernel_rfl) (fun _ _ _ _ h => h) (by kernel_rfl) (.int .i64 15) (Quiet.pure (fun _ => by kernel_rfl)) ?_
    refine Sy.stepD 1 rfl (by kernel_rfl) (fun _ _ _ _ h => h) (by kernel_rfl) (.slice (some ⟨ga, oa, none⟩) 33 c) (Quiet.pure (fun _ => by kernel_rfl)) ?_
    refine Sy.stepD 2 rfl (by kernel_rfl) (fun _ _ _ _ h => h) (by kernel_rfl) (.int .i64 33) (Quiet.pure (fun _ => by kernel_rfl)) ?_
    refine Sy.stepD 3 rfl (by kernel_rfl) (fun _ _ _ _ h => h) (by kernel_rfl) (.bool false) (Quiet.pure (fun _ => by kernel_rfl)) ?_
    refine Sy.stepD 4 rfl (by kernel_rfl) (fun _ _ _ _ h => h) (by kernel_rfl) (.bool false) (Quiet.pure (fun _ => by kernel_rfl)) ?_
    refine Sy.stepD 5 rfl (by kernel_rfl) (fun _ _ _ _ h => h) (by kernel_rfl) (.int .i64 15) (Quiet.pure (fun _ => by kernel_rfl)) ?_
    refine Sy.stepD 6 rfl (by kernel_rfl) (fun _ _ _ _ h => h) (by kernel_rfl) (.pointer (some ⟨g37, 15, none⟩)) (Quiet.pure (fun _ => by kernel_rfl)) ?_
    refine Sy.stepD 7 rfl (by kernel_rfl) (fun _ _ _ _ h => h) (by kernel_rfl) (bv (b.getD 15 0)) (Quiet.cell 0 g37 15 45 5 (b.map bv).toArray _ _ rfl (by kernel_rfl) (by kernel_rfl) Try.underlying5 rfl _ (key_at b hn 15 (by decide))) ?_
    refine Sy.stepD 8 rfl (by kernel_rfl) (fun _ _ _ _ h => h) (by kernel_rfl) (.slice (some ⟨ga, oa, none⟩) 33 c) (Quiet.pure (fun _ => by kernel_rfl)) ?_
    refine Sy.stepD 9 rfl (by kernel_rfl) (fun _ _ _ _ h => h) (by kernel_rfl) (.int .i64 15) (Quiet.pure (fun _ => by kernel_rfl)) ?_
    refine Sy.stepD 10 rfl (by kernel_rfl) (fun _ _ _ _ h => h) (by kernel_rfl) (.pointer (some ⟨ga, oa + 15, none⟩)) (Quiet.pure (fun w => exec_index 44 _ _ ga (oa) 33 (c) 15 rfl (by kernel_rfl) (by kernel_rfl) (by kernel_rfl) (fun _ => by kernel_rfl) (by decide) w)) ?_
    refine Sy.stepD 11 rfl (by kernel_rfl) (fun _ _ _ _ h => h) (by kernel_rfl) (bv (b.getD 15 0)) (Quiet.thereOne ga (oa + 15) 5 _ _ rfl (by kernel_rfl) hsl.1 _ (src_one hsl 15 _ (one_at b hn 15 (by decide))) Try.underlying5 rfl) ?_
    refine Sy.stepD 12 rfl (by kernel_rfl) (fun _ _ _ _ h => h) (by kernel_rfl) (.bool false) (Quiet.pure (fun w => neq_u8_same w _ _ _ _ (b.getD 15 0) rfl rfl rfl)) ?_
    refine Sy.stepD 13 rfl (by kernel_rfl) (fun _ _ _ _ h => h) (by kernel_rfl) (.bool false) (Quiet.pure (fun _ => by kernel_rfl)) ?_
    refine Sy.doneD (by kernel_rfl) ?_
    refine Sy.then_ ?_
    refine Sy.cond_f (by kernel_rfl) (by kernel_rfl) ?_
    refine Sy.skip ?_
    refine Sy.in_ ?_
    refine Sy.then_ ?_
    refine Sy.region ?_
    refine Sy.step (by kernel_rfl) (.int .i64 16) (Quiet.pure (fun _ => by kernel_rfl)) ?_
    refine Sy.step (by kernel_rfl) (.int .i64 16) (Quiet.pure (fun _ => by kernel_rfl)) ?_
    refine Sy.nil ?_
    refine Sy.again ?_
    refine Sy.tidyR (G := [(1, .slice (some ⟨ga, oa, none⟩) 33 c), (12, .pointer (some ⟨g37, 0, none⟩)), (55, .int .i64 16)]) (M := [(g37, 45, (b.map bv).toArray)]) [true] (by kernel_rfl) (all_cons (by kernel_rfl) (all_cons (by kernel_rfl) (all_cons (by kernel_rfl) all_nil))) ?_
    refine Sy.round ?_
    refine Sy.seq ?_
    refine Sy.region ?_
    refine Sy.step (by kernel_rfl) (.bool true) (Quiet.pure (fun _ => by kernel_rfl)) ?_
    refine Sy.nil ?_
    refine Sy.then_ ?_
    refine Sy.seq ?_
    refine Sy.cond_t (by kernel_rfl) (by kernel_rfl) ?_
    refine Sy.skip ?_
    refine Sy.then_ ?_
    refine Sy.seq ?_
    refine Sy.block ?_
    refine Sy.seq ?_
    refine Sy.region ?_
    refine Sy.step (by kernel_rfl) (.int .i64 16) (Quiet.pure (fun _ => by kernel_rfl)) ?_
    refine Sy.step (by kernel_rfl) (.int .i64 16) (Quiet.pure (fun _ => by kernel_rfl)) ?_
    refine Sy.nil ?_
    refine Sy.then_ ?_
    refine Sy.seq ?_
    refine Sy.regionD (fun j => false) (by kernel_rfl) ?_
    refine Sy.stepD 0 rfl (by kernel_rfl) (fun _ _ _ _ h => h) (by kernel_rfl) (.int .i64 16) (Quiet.pure (fun _ => by kernel_rfl)) ?_
    refine Sy.stepD 1 rfl (by kernel_rfl) (fun _ _ _ _ h => h) (by kernel_rfl) (.slice (some ⟨ga, oa, none⟩) 33 c) (Quiet.pure (fun _ => by kernel_rfl)) ?_
    refine Sy.stepD 2 rfl (by kernel_rfl) (fun _ _ _ _ h => h) (by kernel_rfl) (.int .i64 33) (Quiet.pure (fun _ => by kernel_rfl)) ?_
    refine Sy.stepD 3 rfl (by kernel_rfl) (fun _ _ _ _ h => h) (by kernel_rfl) (.bool false) (Quiet.pure (fun _ => by kernel_rfl)) ?_
    refine Sy.stepD 4 rfl (by kernel_rfl) (fun _ _ _ _ h => h) (by kernel_rfl) (.bool false) (Quiet.pure (fun _ => by kernel_rfl)) ?_
    refine Sy.stepD 5 rfl (by kernel_rfl) (fun _ _ _ _ h => h) (by kernel_rfl) (.int .i64 16) (Quiet.pure (fun _ => by kernel_rfl)) ?_
    refine Sy.stepD 6 rfl (by kernel_rfl) (fun _ _ _ _ h => h) (by kernel_rfl) (.pointer (some ⟨g37, 16, none⟩)) (Quiet.pure (fun _ => by kernel_rfl)) ?_
    refine Sy.stepD 7 rfl (by kernel_rfl) (fun _ _ _ _ h => h) (by kernel_rfl) (bv (b.getD 16 0)) (Quiet.cell 0 g37 16 45 5 (b.map bv).toArray _ _ rfl (by kernel_rfl) (by kernel_rfl) Try.underlying5 rfl _ (key_at b hn 16 (by decide))) ?_
    refine Sy.stepD 8 rfl (by kernel_rfl) (fun _ _ _ _ h => h) (by kernel_rfl) (.slice (some ⟨ga, oa, none⟩) 33 c) (Quiet.pure (fun _ => by kernel_rfl)) ?_
    refine Sy.stepD 9 rfl (by kernel_rfl) (fun _ _ _ _ h => h) (by kernel_rfl) (.int .i64 16) (Quiet.pure (fun _ => by kernel_rfl)) ?_
    refine Sy.stepD 10 rfl (by kernel_rfl) (fun _ _ _ _ h => h) (by kernel_rfl) (.pointer (some ⟨ga, oa + 16, none⟩)) (Quiet.pure (fun w => exec_index 44 _ _ ga (oa) 33 (c) 16 rfl (by kernel_rfl) (by kernel_rfl) (by kernel_rfl) (fun _ => by kernel_rfl) (by decide) w)) ?_
    refine Sy.stepD 11 rfl (by kernel_rfl) (fun _ _ _ _ h => h) (by kernel_rfl) (bv (b.getD 16 0)) (Quiet.thereOne ga (oa + 16) 5 _ _ rfl (by kernel_rfl) hsl.1 _ (src_one hsl 16 _ (one_at b hn 16 (by decide))) Try.underlying5 rfl) ?_
    refine Sy.stepD 12 rfl (by kernel_rfl) (fun _ _ _ _ h => h) (by kernel_rfl) (.bool false) (Quiet.pure (fun w => neq_u8_same w _ _ _ _ (b.getD 16 0) rfl rfl rfl)) ?_
    refine Sy.stepD 13 rfl (by kernel_rfl) (fun _ _ _ _ h => h) (by kernel_rfl) (.bool false) (Quiet.pure (fun _ => by kernel_rfl)) ?_
    refine Sy.doneD (by kernel_rfl) ?_
    refine Sy.then_ ?_
    refine Sy.cond_f (by kernel_rfl) (by kernel_rfl) ?_
    refine Sy.skip ?_
    refine Sy.in_ ?_
    refine Sy.then_ ?_
    refine Sy.region ?_
    refine Sy.step (by kernel_rfl) (.int .i64 17) (Quiet.pure (fun _ => by kernel_rfl)) ?_
    refine Sy.step (by kernel_rfl) (.int .i64 17) (Quiet.pure (fun _ => by kernel_rfl)) ?_
    refine Sy.nil ?_
    refine Sy.again ?_
    refine Sy.tidyR (G := [(1, .slice (some ⟨ga, oa, none⟩) 33 c), (12, .pointer (some ⟨g37, 0, none⟩)), (55, .int .i64 17)]) (M := [(g37, 45, (b.map bv).toArray)]) [true] (by kernel_rfl) (all_cons (by kernel_rfl) (all_cons (by kernel_rfl) (all_cons (by kernel_rfl) all_nil))) ?_
    refine Sy.round ?_
    refine Sy.seq ?_
    refine Sy.region ?_
    refine Sy.step (by kernel_rfl) (.bool true) (Quiet.pure (fun _ => by kernel_rfl)) ?_
    refine Sy.nil ?_
    refine Sy.then_ ?_
    refine Sy.seq ?_
    refine Sy.cond_t (by kernel_rfl) (by kernel_rfl) ?_
    refine Sy.skip ?_
    refine Sy.then_ ?_
    refine Sy.seq ?_
    refine Sy.block ?_
    refine Sy.seq ?_
    refine Sy.region ?_
    refine Sy.step (by kernel_rfl) (.int .i64 17) (Quiet.pure (fun _ => by kernel_rfl)) ?_
    refine Sy.step (by kernel_rfl) (.int .i64 17) (Quiet.pure (fun _ => by kernel_rfl)) ?_
    refine Sy.nil ?_
    refine Sy.then_ ?_
    refine Sy.seq ?_
    refine Sy.regionD (fun j => false) (by kernel_rfl) ?_
    refine Sy.stepD 0 rfl (by kernel_rfl) (fun _ _ _ _ h => h) (by kernel_rfl) (.int .i64 17) (Quiet.pure (fun _ => by kernel_rfl)) ?_
    refine Sy.stepD 1 rfl (by kernel_rfl) (fun _ _ _ _ h => h) (by kernel_rfl) (.slice (some ⟨ga, oa, none⟩) 33 c) (Quiet.pure (fun _ => by kernel_rfl)) ?_
    refine Sy.stepD 2 rfl (by kernel_rfl) (fun _ _ _ _ h => h) (by kernel_rfl) (.int .i64 33) (Quiet.pure (fun _ => by kernel_rfl)) ?_
    refine Sy.stepD 3 rfl (by kernel_rfl) (fun _ _ _ _ h => h) (by kernel_rfl) (.bool false) (Quiet.pure (fun _ => by kernel_rfl)) ?_
    refine Sy.stepD 4 rfl (by kernel_rfl) (fun _ _ _ _ h => h) (by kernel_rfl) (.bool false) (Quiet.pure (fun _ => by kernel_rfl)) ?_
    refine Sy.stepD 5 rfl (by kernel_rfl) (fun _ _ _ _ h => h) (by kernel_rfl) (.int .i64 17) (Quiet.pure (fun _ => by kernel_rfl)) ?_
    refine Sy.stepD 6 rfl (by kernel_rfl) (fun _ _ _ _ h => h) (by kernel_rfl) (.pointer (some ⟨g37, 17, none⟩)) (Quiet.pure (fun _ => by kernel_rfl)) ?_
    refine Sy.stepD 7 rfl (by kernel_rfl) (fun _ _ _ _ h => h) (by kernel_rfl) (bv (b.getD 17 0)) (Quiet.cell 0 g37 17 45 5 (b.map bv).toArray _ _ rfl (by kernel_rfl) (by kernel_rfl) Try.underlying5 rfl _ (key_at b hn 17 (by decide))) ?_
    refine Sy.stepD 8 rfl (by kernel_rfl) (fun _ _ _ _ h => h) (by kernel_rfl) (.slice (some ⟨ga, oa, none⟩) 33 c) (Quiet.pure (fun _ => by kernel_rfl)) ?_
    refine Sy.stepD 9 rfl (by kernel_rfl) (fun _ _ _ _ h => h) (by kernel_rfl) (.int .i64 17) (Quiet.pure (fun _ => by kernel_rfl)) ?_
    refine Sy.stepD 10 rfl (by kernel_rfl) (fun _ _ _ _ h => h) (by kernel_rfl) (.pointer (some ⟨ga, oa + 17, none⟩)) (Quiet.pure (fun w => exec_index 44 _ _ ga (oa) 33 (c) 17 rfl (by kernel_rfl) (by kernel_rfl) (by kernel_rfl) (fun _ => by kernel_rfl) (by decide) w)) ?_
    refine Sy.stepD 11 rfl (by kernel_rfl) (fun _ _ _ _ h => h) (by kernel_rfl) (bv (b.getD 17 0)) (Quiet.thereOne ga (oa + 17) 5 _ _ rfl (by kernel_rfl) hsl.1 _ (src_one hsl 17 _ (one_at b hn 17 (by decide))) Try.underlying5 rfl) ?_
    refine Sy.stepD 12 rfl (by kernel_rfl) (fun _ _ _ _ h => h) (by kernel_rfl) (.bool false) (Quiet.pure (fun w => neq_u8_same w _ _ _ _ (b.getD 17 0) rfl rfl rfl)) ?_
    refine Sy.stepD 13 rfl (by kernel_rfl) (fun _ _ _ _ h => h) (by kernel_rfl) (.bool false) (Quiet.pure (fun _ => by kernel_rfl)) ?_
    refine Sy.doneD (by kernel_rfl) ?_
    refine Sy.then_ ?_
    refine Sy.cond_f (by kernel_rfl) (by kernel_rfl) ?_
    refine Sy.skip ?_
    refine Sy.in_ ?_
    refine Sy.then_ ?_
    refine Sy.region ?_
    refine Sy.step (by kernel_rfl) (.int .i64 18) (Quiet.pure (fun _ => by kernel_rfl)) ?_
    refine Sy.step (by kernel_rfl) (.int .i64 18) (Quiet.pure (fun _ => by kernel_rfl)) ?_
    refine Sy.nil ?_
    refine Sy.again ?_
    refine Sy.tidyR (G := [(1, .slice (some ⟨ga, oa, none⟩) 33 c), (12, .pointer (some ⟨g37, 0, none⟩)), (55, .int .i64 18)]) (M := [(g37, 45, (b.map bv).toArray)]) [true] (by kernel_rfl) (all_cons (by kernel_rfl) (all_cons (by kernel_rfl) (all_cons (by kernel_rfl) all_nil))) ?_
    refine Sy.round ?_
    refine Sy.seq ?_
    refine Sy.region ?_
    refine Sy.step (by kernel_rfl) (.bool true) (Quiet.pure (fun _ => by kernel_rfl)) ?_
    refine Sy.nil ?_
    refine Sy.then_ ?_
    refine Sy.seq ?_
    refine Sy.cond_t (by kernel_rfl) (by kernel_rfl) ?_
    refine Sy.skip ?_
    refine Sy.then_ ?_
    refine Sy.seq ?_
    refine Sy.block ?_
    refine Sy.seq ?_
    refine Sy.region ?_
    refine Sy.step (by kernel_rfl) (.int .i64 18) (Quiet.pure (fun _ => by kernel_rfl)) ?_
    refine Sy.step (by kernel_rfl) (.int .i64 18) (Quiet.pure (fun _ => by kernel_rfl)) ?_
    refine Sy.nil ?_
    refine Sy.then_ ?_
    refine Sy.seq ?_
    refine Sy.regionD (fun j => false) (by kernel_rfl) ?_
    refine Sy.stepD 0 rfl (by kernel_rfl) (fun _ _ _ _ h => h) (by kernel_rfl) (.int .i64 18) (Quiet.pure (fun _ => by kernel_rfl)) ?_
    refine Sy.stepD 1 rfl (by kernel_rfl) (fun _ _ _ _ h => h) (by kernel_rfl) (.slice (some ⟨ga, oa, none⟩) 33 c) (Quiet.pure (fun _ => by kernel_rfl)) ?_
    refine Sy.stepD 2 rfl (by kernel_rfl) (fun _ _ _ _ h => h) (by kernel_rfl) (.int .i64 33) (Quiet.pure (fun _ => by kernel_rfl)) ?_
    refine Sy.stepD 3 rfl (by kernel_rfl) (fun _ _ _ _ h => h) (by kernel_rfl) (.bool false) (Quiet.pure (fun _ => by kernel_rfl)) ?_
    refine Sy.stepD 4 rfl (by kernel_rfl) (fun _ _ _ _ h => h) (by kernel_rfl) (.bool false) (Quiet.pure (fun _ => by kernel_rfl)) ?_
    refine Sy.stepD 5 rfl (by kernel_rfl) (fun _ _ _ _ h => h) (by kernel_rfl) (.int .i64 18) (Quiet.pure (fun _ => by kernel_rfl)) ?_
    refine Sy.stepD 6 rfl (by kernel_rfl) (fun _ _ _ _ h => h) (by kernel_rfl) (.pointer (some ⟨g37, 18, none⟩)) (Quiet.pure (fun _ => by kernel_rfl)) ?_
    refine Sy.stepD 7 rfl (by kernel_rfl) (fun _ _ _ _ h => h) (by kernel_rfl) (bv (b.getD 18 0)) (Quiet.cell 0 g37 18 45 5 (b.map bv).toArray _ _ rfl (by kernel_rfl) (by kernel_rfl) Try.underlying5 rfl _ (key_at b hn 18 (by decide))) ?_
    refine Sy.stepD 8 rfl (by kernel_rfl) (fun _ _ _ _ h => h) (by kernel_rfl) (.slice (some ⟨ga, oa, none⟩) 33 c) (Quiet.pure (fun _ => by kernel_rfl)) ?_
    refine Sy.stepD 9 rfl (by kernel_rfl) (fun _ _ _ _ h => h) (by kernel_rfl) (.int .i64 18) (Quiet.pure (fun _ => by kernel_rfl)) ?_
    refine Sy.stepD 10 rfl (by kernel_rfl) (fun _ _ _ _ h => h) (by kernel_rfl) (.pointer (some ⟨ga, oa + 18, none⟩)) (Quiet.pure (fun w => exec_index 44 _ _ ga (oa) 33 (c) 18 rfl (by kernel_rfl) (by kernel_rfl) (by kernel_rfl) (fun _ => by kernel_rfl) (by decide) w)) ?_
    refine Sy.stepD 11 rfl (by kernel_rfl) (fun _ _ _ _ h => h) (by kernel_rfl) (bv (b.getD 18 0)) (Quiet.thereOne ga (oa + 18) 5 _ _ rfl (by kernel_rfl) hsl.1 _ (src_one hsl 18 _ (one_at b hn 18 (by decide))) Try.underlying5 rfl) ?_
    refine Sy.stepD 12 rfl (by kernel_rfl) (fun _ _ _ _ h => h) (by kernel_rfl) (.bool false) (Quiet.pure (fun w => neq_u8_same w _ _ _ _ (b.getD 18 0) rfl rfl rfl)) ?_
    refine Sy.stepD 13 rfl (by kernel_rfl) (fun _ _ _ _ h => h) (by kernel_rfl) (.bool false) (Quiet.pure (fun _ => by kernel_rfl)) ?_
    refine Sy.doneD (by kernel_rfl) ?_
    refine Sy.then_ ?_
    refine Sy.cond_f (by kernel_rfl) (by kernel_rfl) ?_
    refine Sy.skip ?_
    refine Sy.in_ ?_
    refine Sy.then_ ?_
    refine Sy.region ?_
    refine Sy.step (by kernel_rfl) (.int .i64 19) (Quiet.pure (fun _ => by kernel_rfl)) ?_
    refine Sy.step (by kernel_rfl) (.int .i64 19) (Quiet.pure (fun _ => by kernel_rfl)) ?_
    refine Sy.nil ?_
    refine Sy.again ?_
    refine Sy.tidyR (G := [(1, .slice (some ⟨ga, oa, none⟩) 33 c), (12, .pointer (some ⟨g37, 0, none⟩)), (55, .int .i64 19)]) (M := [(g37, 45, (b.map bv).toArray)]) [true] (by kernel_rfl) (all_cons (by kernel_rfl) (all_cons (by kernel_rfl) (all_cons (by kernel_rfl) all_nil))) ?_
    refine Sy.round ?_
    refine Sy.seq ?_
    refine Sy.region ?_
    refine Sy.step (by kernel_rfl) (.bool true) (Quiet.pure (fun _ => by kernel_rfl)) ?_
    refine Sy.nil ?_
    refine Sy.then_ ?_
    refine Sy.seq ?_
    refine Sy.cond_t (by kernel_rfl) (by kernel_rfl) ?_
    refine Sy.skip ?_
    refine Sy.then_ ?_
    refine Sy.seq ?_
    refine Sy.block ?_
    refine Sy.seq ?_
    refine Sy.region ?_
    refine Sy.step (by kernel_rfl) (.int .i64 19) (Quiet.pure (fun _ => by kernel_rfl)) ?_
    refine Sy.step (by kernel_rfl) (.int .i64 19) (Quiet.pure (fun _ => by kernel_rfl)) ?_
    refine Sy.nil ?_
    refine Sy.then_ ?_
    refine Sy.seq ?_
    refine Sy.regionD (fun j => false) (by kernel_rfl) ?_
    refine Sy.stepD 0 rfl (by kernel_rfl) (fun _ _ _ _ h => h) (by kernel_rfl) (.int .i64 19) (Quiet.pure (fun _ => by kernel_rfl)) ?_
    refine Sy.stepD 1 rfl (by kernel_rfl) (fun _ _ _ _ h => h) (by kernel_rfl) (.slice (some ⟨ga, oa, none⟩) 33 c) (Quiet.pure (fun _ => by kernel_rfl)) ?_
    refine Sy.stepD 2 rfl (by kernel_rfl) (fun _ _ _ _ h => h) (by kernel_rfl) (.int .i64 33) (Quiet.pure (fun _ => by kernel_rfl)) ?_
    refine Sy.stepD 3 rfl (by kernel_rfl) (fun _ _ _ _ h => h) (by kernel_rfl) (.bool false) (Quiet.pure (fun _ => by kernel_rfl)) ?_
    refine Sy.stepD 4 rfl (by kernel_rfl) (fun _ _ _ _ h => h) (by kernel_rfl) (.bool false) (Quiet.pure (fun _ => by kernel_rfl)) ?_
    refine Sy.stepD 5 rfl (by kernel_rfl) (fun _ _ _ _ h => h) (by kernel_rfl) (.int .i64 19) (Quiet.pure (fun _ => by kernel_rfl)) ?_
    refine Sy.stepD 6 rfl (by kernel_rfl) (fun _ _ _ _ h => h) (by kernel_rfl) (.pointer (some ⟨g37, 19, none⟩)) (Quiet.pure (fun _ => by kernel_rfl)) ?_
    refine Sy.stepD 7 rfl (by kernel_rfl) (fun _ _ _ _ h => h) (by kernel_rfl) (bv (b.getD 19 0)) (Quiet.cell 0 g37 19 45 5 (b.map bv).toArray _ _ rfl (by kernel_rfl) (by kernel_rfl) Try.underlying5 rfl _ (key_at b hn 19 (by decide))) ?_
    refine Sy.stepD 8 rfl (by kernel_rfl) (fun _ _ _ _ h => h) (by kernel_rfl) (.slice (some ⟨ga, oa, none⟩) 33 c) (Quiet.pure (fun _ => by kernel_rfl)) ?_
    refine Sy.stepD 9 rfl (by kernel_rfl) (fun _ _ _ _ h => h) (by kernel_rfl) (.int .i64 19) (Quiet.pure (fun _ => by kernel_rfl)) ?_
    refine Sy.stepD 10 rfl (by kernel_rfl) (fun _ _ _ _ h => h) (by kernel_rfl) (.pointer (some ⟨ga, oa + 19, none⟩)) (Quiet.pure (fun w => exec_index 44 _ _ ga (oa) 33 (c) 19 rfl (by kernel_rfl) (by kernel_rfl) (by kernel_rfl) (fun _ => by kernel_rfl) (by decide) w)) ?_
    refine Sy.stepD 11 rfl (by kernel_rfl) (fun _ _ _ _ h => h) (by kernel_rfl) (bv (b.getD 19 0)) (Quiet.thereOne ga (oa + 19) 5 _ _ rfl (by kernel_rfl) hsl.1 _ (src_one hsl 19 _ (one_at b hn 19 (by decide))) Try.underlying5 rfl) ?_
    refine Sy.stepD 12 rfl (by kernel_rfl) (fun _ _ _ _ h => h) (by kernel_rfl) (.bool false) (Quiet.pure (fun w => neq_u8_same w _ _ _ _ (b.getD 19 0) rfl rfl rfl)) ?_
    refine Sy.stepD 13 rfl (by kernel_rfl) (fun _ _ _ _ h => h) (by kernel_rfl) (.bool false) (Quiet.pure (fun _ => by kernel_rfl)) ?_
    refine Sy.doneD (by kernel_rfl) ?_
    refine Sy.then_ ?_
    refine Sy.cond_f (by kernel_rfl) (by kernel_rfl) ?_
    refine Sy.skip ?_
    refine Sy.in_ ?_
    refine Sy.then_ ?_
    refine Sy.region ?_
    refine Sy.step (by kernel_rfl) (.int .i64 20) (Quiet.pure (fun _ => by kernel_rfl)) ?_
    refine Sy.step (by kernel_rfl) (.int .i64 20) (Quiet.pure (fun _ => by kernel_rfl)) ?_
    refine Sy.nil ?_
    refine Sy.again ?_
    refine Sy.tidyR (G := [(1, .slice (some ⟨ga, oa, none⟩) 33 c), (12, .pointer (some ⟨g37, 0, none⟩)), (55, .int .i64 20)]) (M := [(g37, 45, (b.map bv).toArray)]) [true] (by kernel_rfl) (all_cons (by kernel_rfl) (all_cons (by kernel_rfl) (all_cons (by kernel_rfl) all_nil))) ?_
    refine Sy.round ?_
    refine Sy.seq ?_
    refine Sy.region ?_
    refine Sy.step (by kernel_rfl) (.bool true) (Quiet.pure (fun _ => by kernel_rfl)) ?_
    refine Sy.nil ?_
    refine Sy.then_ ?_
    refine Sy.seq ?_
    refine Sy.cond_t (by kernel_rfl) (by kernel_rfl) ?_
    refine Sy.skip ?_
    refine Sy.then_ ?_
    refine Sy.seq ?_
    refine Sy.block ?_
    refine Sy.seq ?_
    refine Sy.region ?_
    refine Sy.step (by kernel_rfl) (.int .i64 20) (Quiet.pure (fun _ => by kernel_rfl)) ?_
    refine Sy.step (by kernel_rfl) (.int .i64 20) (Quiet.pure (fun _ => by kernel_rfl)) ?_
    refine Sy.nil ?_
    refine Sy.then_ ?_
    refine Sy.seq ?_
    refine Sy.regionD (fun j => false) (by kernel_rfl) ?_
    refine Sy.stepD 0 rfl (by kernel_rfl) (fun _ _ _ _ h => h) (by kernel_rfl) (.int .i64 20) (Quiet.pure (fun _ => by kernel_rfl)) ?_
    refine Sy.stepD 1 rfl (by kernel_rfl) (fun _ _ _ _ h => h) (by kernel_rfl) (.slice (some ⟨ga, oa, none⟩) 33 c) (Quiet.pure (fun _ => by kernel_rfl)) ?_
    refine Sy.stepD 2 rfl (by kernel_rfl) (fun _ _ _ _ h => h) (by kernel_rfl) (.int .i64 33) (Quiet.pure (fun _ => by kernel_rfl)) ?_
    refine Sy.stepD 3 rfl (by kernel_rfl) (fun _ _ _ _ h => h) (by kernel_rfl) (.bool false) (Quiet.pure (fun _ => by kernel_rfl)) ?_
    refine Sy.stepD 4 rfl (by kernel_rfl) (fun _ _ _ _ h => h) (by kernel_rfl) (.bool false) (Quiet.pure (fun _ => by kernel_rfl)) ?_
    refine Sy.stepD 5 rfl (by kernel_rfl) (fun _ _ _ _ h => h) (by kernel_rfl) (.int .i64 20) (Quiet.pure (fun _ => by kernel_rfl)) ?_
    refine Sy.stepD 6 rfl (by kernel_rfl) (fun _ _ _ _ h => h) (by kernel_rfl) (.pointer (some ⟨g37, 20, none⟩)) (Quiet.pure (fun _ => by kernel_rfl)) ?_
    refine Sy.stepD 7 rfl (by kernel_rfl) (fun _ _ _ _ h => h) (by kernel_rfl) (bv (b.getD 20 0)) (Quiet.cell 0 g37 20 45 5 (b.map bv).toArray _ _ rfl (by kernel_rfl) (by kernel_rfl) Try.underlying5 rfl _ (key_at b hn 20 (by decide))) ?_
    refine Sy.stepD 8 rfl (by kernel_rfl) (fun _ _ _ _ h => h) (by kernel_rfl) (.slice (some ⟨ga, oa, none⟩) 33 c) (Quiet.pure (fun _ => by kernel_rfl)) ?_
    refine Sy.stepD 9 rfl (by kernel_rfl) (fun _ _ _ _ h => h) (by kernel_rfl) (.int .i64 20) (Quiet.pure (fun _ => by kernel_rfl)) ?_
    refine Sy.stepD 10 rfl (by kernel_rfl) (fun _ _ _ _ h => h) (by kernel_rfl) (.pointer (some ⟨ga, oa + 20, none⟩)) (Quiet.pure (fun w => exec_index 44 _ _ ga (oa) 33 (c) 20 rfl (by kernel_rfl) (by kernel_rfl) (by kernel_rfl) (fun _ => by kernel_rfl) (by decide) w)) ?_
    refine Sy.stepD 11 rfl (by kernel_rfl) (fun _ _ _ _ h => h) (by kernel_rfl) (bv (b.getD 20 0)) (Quiet.thereOne ga (oa + 20) 5 _ _ rfl (by kernel_rfl) hsl.1 _ (src_one hsl 20 _ (one_at b hn 20 (by decide))) Try.underlying5 rfl) ?_
    refine Sy.stepD 12 rfl (by kernel_rfl) (fun _ _ _ _ h => h) (by kernel_rfl) (.bool false) (Quiet.pure (fun w => neq_u8_same w _ _ _ _ (b.getD 20 0) rfl rfl rfl)) ?_
    refine Sy.stepD 13 rfl (by kernel_rfl) (fun _ _ _ _ h => h) (by kernel_rfl) (.bool false) (Quiet.pure (fun _ => by kernel_rfl)) ?_
    refine Sy.doneD (by kernel_rfl) ?_
    refine Sy.then_ ?_
    refine Sy.cond_f (by kernel_rfl) (by kernel_rfl) ?_
    refine Sy.skip ?_
    refine Sy.in_ ?_
    refine Sy.then_ ?_
    refine Sy.region ?_
    refine Sy.step (by kernel_rfl) (.int .i64 21) (Quiet.pure (fun _ => by kernel_rfl)) ?_
    refine Sy.step (by kernel_rfl) (.int .i64 21) (Quiet.pure (fun _ => by kernel_rfl)) ?_
    refine Sy.nil ?_
    refine Sy.again ?_
    refine Sy.tidyR (G := [(1, .slice (some ⟨ga, oa, none⟩) 33 c), (12, .pointer (some ⟨g37, 0, none⟩)), (55, .int .i64 21)]) (M := [(g37, 45, (b.map bv).toArray)]) [true] (by kernel_rfl) (all_cons (by kernel_rfl) (all_cons (by kernel_rfl) (all_cons (by kernel_rfl) all_nil))) ?_
    refine Sy.round ?_
    refine Sy.seq ?_
    refine Sy.region ?_
    refine Sy.step (by kernel_rfl) (.bool true) (Quiet.pure (fun _ => by kernel_rfl)) ?_
    refine Sy.nil ?_
    refine Sy.then_ ?_
    refine Sy.seq ?_
    refine Sy.cond_t (by kernel_rfl) (by kernel_rfl) ?_
    refine Sy.skip ?_
    refine Sy.then_ ?_
    refine Sy.seq ?_
    refine Sy.block ?_
    refine Sy.seq ?_
    refine Sy.region ?_
    refine Sy.step (by kernel_rfl) (.int .i64 21) (Quiet.pure (fun _ => by kernel_rfl)) ?_
    refine Sy.step (by kernel_rfl) (.int .i64 21) (Quiet.pure (fun _ => by kernel_rfl)) ?_
    refine Sy.nil ?_
    refine Sy.then_ ?_
    refine Sy.seq ?_
    refine Sy.regionD (fun j => false) (by kernel_rfl) ?_
    refine Sy.stepD 0 rfl (by kernel_rfl) (fun _ _ _ _ h => h) (by kernel_rfl) (.int .i64 21) (Quiet.pure (fun _ => by kernel_rfl)) ?_
    refine Sy.stepD 1 rfl (by kernel_rfl) (fun _ _ _ _ h => h) (by kernel_rfl) (.slice (some ⟨ga, oa, none⟩) 33 c) (Quiet.pure (fun _ => by kernel_rfl)) ?_
    refine Sy.stepD 2 rfl (by kernel_rfl) (fun _ _ _ _ h => h) (by kernel_rfl) (.int .i64 33) (Quiet.pure (fun _ => by kernel_rfl)) ?_
    refine Sy.stepD 3 rfl (by kernel_rfl) (fun _ _ _ _ h => h) (by kernel_rfl) (.bool false) (Quiet.pure (fun _ => by kernel_rfl)) ?_
    refine Sy.stepD 4 rfl (by kernel_rfl) (fun _ _ _ _ h => h) (by kernel_rfl) (.bool false) (Quiet.pure (fun _ => by kernel_rfl)) ?_
    refine Sy.stepD 5 rfl (by kernel_rfl) (fun _ _ _ _ h => h) (by kernel_rfl) (.int .i64 21) (Quiet.pure (fun _ => by kernel_rfl)) ?_
    refine Sy.stepD 6 rfl (by kernel_rfl) (fun _ _ _ _ h => h) (by kernel_rfl) (.pointer (some ⟨g37, 21, none⟩)) (Quiet.pure (fun _ => by kernel_rfl)) ?_
    refine Sy.stepD 7 rfl (by kernel_rfl) (fun _ _ _ _ h => h) (by kernel_rfl) (bv (b.getD 21 0)) (Quiet.cell 0 g37 21 45 5 (b.map bv).toArray _ _ rfl (by kernel_rfl) (by kernel_rfl) Try.underlying5 rfl _ (key_at b hn 21 (by decide))) ?_
    refine Sy.stepD 8 rfl (by kernel_rfl) (fun _ _ _ _ h => h) (by kernel_rfl) (.slice (some ⟨ga, oa, none⟩) 33 c) (Quiet.pure (fun _ => by kernel_rfl)) ?_
    refine Sy.stepD 9 rfl (by kernel_rfl) (fun _ _ _ _ h => h) (by kernel_rfl) (.int .i64 21) (Quiet.pure (fun _ => by kernel_rfl)) ?_
    refine Sy.stepD 10 rfl (by kernel_rfl) (fun _ _ _ _ h => h) (by kernel_rfl) (.pointer (some ⟨ga, oa + 21, none⟩)) (Quiet.pure (fun w => exec_index 44 _ _ ga (oa) 33 (c) 21 rfl (by kernel_rfl) (by kernel_rfl) (by kernel_rfl) (fun _ => by kernel_rfl) (by decide) w)) ?_
    refine Sy.stepD 11 rfl (by kernel_rfl) (fun _ _ _ _ h => h) (by kernel_rfl) (bv (b.getD 21 0)) (Quiet.thereOne ga (oa + 21) 5 _ _ rfl (by kernel_rfl) hsl.1 _ (src_one hsl 21 _ (one_at b hn 21 (by decide))) Try.underlying5 rfl) ?_
    refine Sy.stepD 12 rfl (by kernel_rfl) (fun _ _ _ _ h => h) (by kernel_rfl) (.bool false) (Quiet.pure (fun w => neq_u8_same w _ _ _ _ (b.getD 21 0) rfl rfl rfl)) ?_
    refine Sy.stepD 13 rfl (by kernel_rfl) (fun _ _ _ _ h => h) (by kernel_rfl) (.bool false) (Quiet.pure (fun _ => by kernel_rfl)) ?_
    refine Sy.doneD (by kernel_rfl) ?_
    refine Sy.then_ ?_
    refine Sy.cond_f (by kernel_rfl) (by kernel_rfl) ?_
    refine Sy.skip ?_
    refine Sy.in_ ?_
    refine Sy.then_ ?_
    refine Sy.region ?_
    refine Sy.step (by kernel_rfl) (.int .i64 22) (Quiet.pure (fun _ => by kernel_rfl)) ?_
    refine Sy.step (by kernel_rfl) (.int .i64 22) (Quiet.pure (fun _ => by kernel_rfl)) ?_
    refine Sy.nil ?_
    refine Sy.again ?_
    refine Sy.tidyR (G := [(1, .slice (some ⟨ga, oa, none⟩) 33 c), (12, .pointer (some ⟨g37, 0, none⟩)), (55, .int .i64 22)]) (M := [(g37, 45, (b.map bv).toArray)]) [true] (by kernel_rfl) (all_cons (by kernel_rfl) (all_cons (by kernel_rfl) (all_cons (by kernel_rfl) all_nil))) ?_
    refine Sy.round ?_
    refine Sy.seq ?_
    refine Sy.region ?_
    refine Sy.step (by kernel_rfl) (.bool true) (Quiet.pure (fun _ => by kernel_rfl)) ?_
    refine Sy.nil ?_
    refine Sy.then_ ?_
    refine Sy.seq ?_
    refine Sy.cond_t (by kernel_rfl) (by kernel_rfl) ?_
    refine Sy.skip ?_
    refine Sy.then_ ?_
    refine Sy.seq ?_
    refine Sy.block ?_
    refine Sy.seq ?_
    refine Sy.region ?_
    refine Sy.step (by kernel_rfl) (.int .i64 22) (Quiet.pure (fun _ => by kernel_rfl)) ?_
    refine Sy.step (by kernel_rfl) (.int .i64 22) (Quiet.pure (fun _ => by kernel_rfl)) ?_
    refine Sy.nil ?_
    refine Sy.then_ ?_
    refine Sy.seq ?_
    refine Sy.regionD (fun j => false) (by kernel_rfl) ?_
    refine Sy.stepD 0 rfl (by kernel_rfl) (fun _ _ _ _ h => h) (by kernel_rfl) (.int .i64 22) (Quiet.pure (fun _ => by kernel_rfl)) ?_
    refine Sy.stepD 1 rfl (by kernel_rfl) (fun _ _ _ _ h => h) (by kernel_rfl) (.slice (some ⟨ga, oa, none⟩) 33 c) (Quiet.pure (fun _ => by kernel_rfl)) ?_
    refine Sy.stepD 2 rfl (by kernel_rfl) (fun _ _ _ _ h => h) (by kernel_rfl) (.int .i64 33) (Quiet.pure (fun _ => by kernel_rfl)) ?_
    refine Sy.stepD 3 rfl (by kernel_rfl) (fun _ _ _ _ h => h) (by kernel_rfl) (.bool false) (Quiet.pure (fun _ => by kernel_rfl)) ?_
    refine Sy.stepD 4 rfl (by kernel_rfl) (fun _ _ _ _ h => h) (by kernel_rfl) (.bool false) (Quiet.pure (fun _ => by kernel_rfl)) ?_
    refine Sy.stepD 5 rfl (by kernel_rfl) (fun _ _ _ _ h => h) (by kernel_rfl) (.int .i64 22) (Quiet.pure (fun _ => by kernel_rfl)) ?_
    refine Sy.stepD 6 rfl (by kernel_rfl) (fun _ _ _ _ h => h) (by kernel_rfl) (.pointer (some ⟨g37, 22, none⟩)) (Quiet.pure (fun _ => by kernel_rfl)) ?_
    refine Sy.stepD 7 rfl (by kernel_rfl) (fun _ _ _ _ h => h) (by kernel_rfl) (bv (b.getD 22 0)) (Quiet.cell 0 g37 22 45 5 (b.map bv).toArray _ _ rfl (by kernel_rfl) (by kernel_rfl) Try.underlying5 rfl _ (key_at b hn 22 (by decide))) ?_
    refine Sy.stepD 8 rfl (by kernel_rfl) (fun _ _ _ _ h => h) (by kernel_rfl) (.slice (some ⟨ga, oa, none⟩) 33 c) (Quiet.pure (fun _ => by kernel_rfl)) ?_
    refine Sy.stepD 9 rfl (by kernel_rfl) (fun _ _ _ _ h => h) (by kernel_rfl) (.int .i64 22) (Quiet.pure (fun _ => by kernel_rfl)) ?_
    refine Sy.stepD 10 rfl (by kernel_rfl) (fun _ _ _ _ h => h) (by kernel_rfl) (.pointer (some ⟨ga, oa + 22, none⟩)) (Quiet.pure (fun w => exec_index 44 _ _ ga (oa) 33 (c) 22 rfl (by kernel_rfl) (by kernel_rfl) (by kernel_rfl) (fun _ => by kernel_rfl) (by decide) w)) ?_
    refine Sy.stepD 11 rfl (by kernel_rfl) (fun _ _ _ _ h => h) (by kernel_rfl) (bv (b.getD 22 0)) (Quiet.thereOne ga (oa + 22) 5 _ _ rfl (by kernel_rfl) hsl.1 _ (src_one hsl 22 _ (one_at b hn 22 (by decide))) Try.underlying5 rfl) ?_
    refine Sy.stepD 12 rfl (by kernel_rfl) (fun _ _ _ _ h => h) (by kernel_rfl) (.bool false) (Quiet.pure (fun w => neq_u8_same w _ _ _ _ (b.getD 22 0) rfl rfl rfl)) ?_
    refine Sy.stepD 13 rfl (by kernel_rfl) (fun _ _ _ _ h => h) (by kernel_rfl) (.bool false) (Quiet.pure (fun _ => by kernel_rfl)) ?_
    refine Sy.doneD (by kernel_rfl) ?_
    refine Sy.then_ ?_
    refine Sy.cond_f (by kernel_rfl) (by kernel_rfl) ?_
    refine Sy.skip ?_
    refine Sy.in_ ?_
    refine Sy.then_ ?_
    refine Sy.region ?_
    refine Sy.step (by kernel_rfl) (.int .i64 23) (Quiet.pure (fun _ => by kernel_rfl)) ?_
    refine Sy.step (by kernel_rfl) (.int .i64 23) (Quiet.pure (fun _ => by kernel_rfl)) ?_
    refine Sy.nil ?_
    refine Sy.again ?_
    refine Sy.tidyR (G := [(1, .slice (some ⟨ga, oa, none⟩) 33 c), (12, .pointer (some ⟨g37, 0, none⟩)), (55, .int .i64 23)]) (M := [(g37, 45, (b.map bv).toArray)]) [true] (by kernel_rfl) (all_cons (by kernel_rfl) (all_cons (by kernel_rfl) (all_cons (by kernel_rfl) all_nil))) ?_
    refine Sy.round ?_
    refine Sy.seq ?_
    refine Sy.region ?_
    refine Sy.step (by kernel_rfl) (.bool true) (Quiet.pure (fun _ => by kernel_rfl)) ?_
    refine Sy.nil ?_
    refine Sy.then_ ?_
    refine Sy.seq ?_
    refine Sy.cond_t (by kernel_rfl) (by kernel_rfl) ?_
    refine Sy.skip ?_
    refine Sy.then_ ?_
    refine Sy.seq ?_
    refine Sy.block ?_
    refine Sy.seq ?_
    refine Sy.region ?_
    refine Sy.step (by kernel_rfl) (.int .i64 23) (Quiet.pure (fun _ => by kernel_rfl)) ?_
    refine Sy.step (by kernel_rfl) (.int .i64 23) (Quiet.pure (fun _ => by kernel_rfl)) ?_
    refine Sy.nil ?_
    refine Sy.then_ ?_
    refine Sy.seq ?_
    refine Sy.regionD (fun j => false) (by kernel_rfl) ?_
    refine Sy.stepD 0 rfl (by kernel_rfl) (fun _ _ _ _ h => h) (by kernel_rfl) (.int .i64 23) (Quiet.pure (fun _ => by kernel_rfl)) ?_
    refine Sy.stepD 1 rfl (by kernel_rfl) (fun _ _ _ _ h => h) (by kernel_rfl) (.slice (some ⟨ga, oa, none⟩) 33 c) (Quiet.pure (fun _ => by kernel_rfl)) ?_
    refine Sy.stepD 2 rfl (by kernel_rfl) (fun _ _ _ _ h => h) (by kernel_rfl) (.int .i64 33) (Quiet.pure (fun _ => by kernel_rfl)) ?_
    refine Sy.stepD 3 rfl (by kernel_rfl) (fun _ _ _ _ h => h) (by kernel_rfl) (.bool false) (Quiet.pure (fun _ => by kernel_rfl)) ?_
    refine Sy.stepD 4 rfl (by kernel_rfl) (fun _ _ _ _ h => h) (by kernel_rfl) (.bool false) (Quiet.pure (fun _ => by kernel_rfl)) ?_
    refine Sy.stepD 5 rfl (by kernel_rfl) (fun _ _ _ _ h => h) (by kernel_rfl) (.int .i64 23) (Quiet.pure (fun _ => by kernel_rfl)) ?_
    refine Sy.stepD 6 rfl (by kernel_rfl) (fun _ _ _ _ h => h) (by kernel_rfl) (.pointer (some ⟨g37, 23, none⟩)) (Quiet.pure (fun _ => by kernel_rfl)) ?_
    refine Sy.stepD 7 rfl (by kernel_rfl) (fun _ _ _ _ h => h) (by kernel_rfl) (bv (b.getD 23 0)) (Quiet.cell 0 g37 23 45 5 (b.map bv).toArray _ _ rfl (by kernel_rfl) (by kernel_rfl) Try.underlying5 rfl _ (key_at b hn 23 (by decide))) ?_
    refine Sy.stepD 8 rfl (by kernel_rfl) (fun _ _ _ _ h => h) (by kernel_rfl) (.slice (some ⟨ga, oa, none⟩) 33 c) (Quiet.pure (fun _ => by kernel_rfl)) ?_
    refine Sy.stepD 9 rfl (by kernel_rfl) (fun _ _ _ _ h => h) (by kernel_rfl) (.int .i64 23) (Quiet.pure (fun _ => by kernel_rfl)) ?_
    refine Sy.stepD 10 rfl (by kernel_rfl) (fun _ _ _ _ h => h) (by kernel_rfl) (.pointer (some ⟨ga, oa + 23, none⟩)) (Quiet.pure (fun w => exec_index 44 _ _ ga (oa) 33 (c) 23 rfl (by kernel_rfl) (by kernel_rfl) (by kernel_rfl) (fun _ => by kernel_rfl) (by decide) w)) ?_
    refine Sy.stepD 11 rfl (by kernel_rfl) (fun _ _ _ _ h => h) (by kernel_rfl) (bv (b.getD 23 0)) (Quiet.thereOne ga (oa + 23) 5 _ _ rfl (by kernel_rfl) hsl.1 _ (src_one hsl 23 _ (one_at b hn 23 (by decide))) Try.underlying5 rfl) ?_
    refine Sy.stepD 12 rfl (by kernel_rfl) (fun _ _ _ _ h => h) (by kernel_rfl) (.bool false) (Quiet.pure (fun w => neq_u8_same w _ _ _ _ (b.getD 23 0) rfl rfl rfl)) ?_
    refine Sy.stepD 13 rfl (by kernel_rfl) (fun _ _ _ _ h => h) (by kernel_rfl) (.bool false) (Quiet.pure (fun _ => by kernel_rfl)) ?_
    refine Sy.doneD (by kernel_rfl) ?_
    refine Sy.then_ ?_
    refine Sy.cond_f (by kernel_rfl) (by kernel_rfl) ?_
    refine Sy.skip ?_
    refine Sy.in_ ?_
    refine Sy.then_ ?_
    refine Sy.region ?_
    refine Sy.step (by kernel_rfl) (.int .i64 24) (Quiet.pure (fun _ => by kernel_rfl)) ?_
    refine Sy.step (by kernel_rfl) (.int .i64 24) (Quiet.pure (fun _ => by kernel_rfl)) ?_
    refine Sy.nil ?_
    refine Sy.again ?_
    refine Sy.tidyR (G := [(1, .slice (some ⟨ga, oa, none⟩) 33 c), (12, .pointer (some ⟨g37, 0, none⟩)), (55, .int .i64 24)]) (M := [(g37, 45, (b.map bv).toArray)]) [true] (by kernel_rfl) (all_cons (by kernel_rfl) (all_cons (by kernel_rfl) (all_cons (by kernel_rfl) all_nil))) ?_
    refine Sy.round ?_
    refine Sy.seq ?_
    refine Sy.region ?_
    refine Sy.step (by kernel_rfl) (.bool true) (Quiet.pure (fun _ => by kernel_rfl)) ?_
    refine Sy.nil ?_
    refine Sy.then_ ?_
    refine Sy.seq ?_
    refine Sy.cond_t (by kernel_rfl) (by kernel_rfl) ?_
    refine Sy.skip ?_
    refine Sy.then_ ?_
    refine Sy.seq ?_
    refine Sy.block ?_
    refine Sy.seq ?_
    refine Sy.region ?_
    refine Sy.step (by kernel_rfl) (.int .i64 24) (Quiet.pure (fun _ => by kernel_rfl)) ?_
    refine Sy.step (by kernel_rfl) (.int .i64 24) (Quiet.pure (fun _ => by kernel_rfl)) ?_
    refine Sy.nil ?_
    refine Sy.then_ ?_
    refine Sy.seq ?_
    refine Sy.regionD (fun j => false) (by kernel_rfl) ?_
    refine Sy.stepD 0 rfl (by kernel_rfl) (fun _ _ _ _ h => h) (by kernel_rfl) (.int .i64 24) (Quiet.pure (fun _ => by kernel_rfl)) ?_
    refine Sy.stepD 1 rfl (by kernel_rfl) (fun _ _ _ _ h => h) (by kernel_rfl) (.slice (some ⟨ga, oa, none⟩) 33 c) (Quiet.pure (fun _ => by kernel_rfl)) ?_
    refine Sy.stepD 2 rfl (by kernel_rfl) (fun _ _ _ _ h => h) (by kernel_rfl) (.int .i64 33) (Quiet.pure (fun _ => by kernel_rfl)) ?_
    refine Sy.stepD 3 rfl (by kernel_rfl) (fun _ _ _ _ h => h) (by kernel_rfl) (.bool false) (Quiet.pure (fun _ => by kernel_rfl)) ?_
    refine Sy.stepD 4 rfl (by kernel_rfl) (fun _ _ _ _ h => h) (by kernel_rfl) (.bool false) (Quiet.pure (fun _ => by kernel_rfl)) ?_
    refine Sy.stepD 5 rfl (by kernel_rfl) (fun _ _ _ _ h => h) (by kernel_rfl) (.int .i64 24) (Quiet.pure (fun _ => by kernel_rfl)) ?_
    refine Sy.stepD 6 rfl (by kernel_rfl) (fun _ _ _ _ h => h) (by kernel_rfl) (.pointer (some ⟨g37, 24, none⟩)) (Quiet.pure (fun _ => by kernel_rfl)) ?_
    refine Sy.stepD 7 rfl (by kernel_rfl) (fun _ _ _ _ h => h) (by kernel_rfl) (bv (b.getD 24 0)) (Quiet.cell 0 g37 24 45 5 (b.map bv).toArray _ _ rfl (by kernel_rfl) (by kernel_rfl) Try.underlying5 rfl _ (key_at b hn 24 (by decide))) ?_
    refine Sy.stepD 8 rfl (by kernel_rfl) (fun _ _ _ _ h => h) (by kernel_rfl) (.slice (some ⟨ga, oa, none⟩) 33 c) (Quiet.pure (fun _ => by kernel_rfl)) ?_
    refine Sy.stepD 9 rfl (by kernel_rfl) (fun _ _ _ _ h => h) (by kernel_rfl) (.int .i64 24) (Quiet.pure (fun _ => by kernel_rfl)) ?_
    refine Sy.stepD 10 rfl (by kernel_rfl) (fun _ _ _ _ h => h) (by kernel_rfl) (.pointer (some ⟨ga, oa + 24, none⟩)) (Quiet.pure (fun w => exec_index 44 _ _ ga (oa) 33 (c) 24 rfl (by kernel_rfl) (by kernel_rfl) (by kernel_rfl) (fun _ => by kernel_rfl) (by decide) w)) ?_
    refine Sy.stepD 11 rfl (by kernel_rfl) (fun _ _ _ _ h => h) (by kernel_rfl) (bv (b.getD 24 0)) (Quiet.thereOne ga (oa + 24) 5 _ _ rfl (by kernel_rfl) hsl.1 _ (src_one hsl 24 _ (one_at b hn 24 (by decide))) Try.underlying5 rfl) ?_
    refine Sy.stepD 12 rfl (by kernel_rfl) (fun _ _ _ _ h => h) (by kernel_rfl) (.bool false) (Quiet.pure (fun w => neq_u8_same w _ _ _ _ (b.getD 24 0) rfl rfl rfl)) ?_
    refine Sy.stepD 13 rfl (by kernel_rfl) (fun _ _ _ _ h => h) (by kernel_rfl) (.bool false) (Quiet.pure (fun _ => by kernel_rfl)) ?_
    refine Sy.doneD (by kernel_rfl) ?_
    refine Sy.then_ ?_
    refine Sy.cond_f (by kernel_rfl) (by kernel_rfl) ?_
    refine Sy.skip ?_
    refine Sy.in_ ?_
    refine Sy.then_ ?_
    refine Sy.region ?_
    refine Sy.step (by kernel_rfl) (.int .i64 25) (Quiet.pure (fun _ => by kernel_rfl)) ?_
    refine Sy.step (by kernel_rfl) (.int .i64 25) (Quiet.pure (fun _ => by kernel_rfl)) ?_
    refine Sy.nil ?_
    refine Sy.again ?_
    refine Sy.tidyR (G := [(1, .slice (some ⟨ga, oa, none⟩) 33 c), (12, .pointer (some ⟨g37, 0, none⟩)), (55, .int .i64 25)]) (M := [(g37, 45, (b.map bv).toArray)]) [true] (by kernel_rfl) (all_cons (by kernel_rfl) (all_cons (by kernel_rfl) (all_cons (by kernel_rfl) all_nil))) ?_
    refine Sy.round ?_
    refine Sy.seq ?_
    refine Sy.region ?_
    refine Sy.step (by kernel_rfl) (.bool true) (Quiet.pure (fun _ => by kernel_rfl)) ?_
    refine Sy.nil ?_
    refine Sy.then_ ?_
    refine Sy.seq ?_
    refine Sy.cond_t (by kernel_rfl) (by kernel_rfl) ?_
    refine Sy.skip ?_
    refine Sy.then_ ?_
    refine Sy.seq ?_
    refine Sy.block ?_
    refine Sy.seq ?_
    refine Sy.region ?_
    refine Sy.step (by kernel_rfl) (.int .i64 25) (Quiet.pure (fun _ => by kernel_rfl)) ?_
    refine Sy.step (by kernel_rfl) (.int .i64 25) (Quiet.pure (fun _ => by kernel_rfl)) ?_
    refine Sy.nil ?_
    refine Sy.then_ ?_
    refine Sy.seq ?_
    refine Sy.regionD (fun j => false) (by kernel_rfl) ?_
    refine Sy.stepD 0 rfl (by kernel_rfl) (fun _ _ _ _ h => h) (by kernel_rfl) (.int .i64 25) (Quiet.pure (fun _ => by kernel_rfl)) ?_
    refine Sy.stepD 1 rfl (by kernel_rfl) (fun _ _ _ _ h => h) (by kernel_rfl) (.slice (some ⟨ga, oa, none⟩) 33 c) (Quiet.pure (fun _ => by kernel_rfl)) ?_
    refine Sy.stepD 2 rfl (by kernel_rfl) (fun _ _ _ _ h => h) (by kernel_rfl) (.int .i64 33) (Quiet.pure (fun _ => by kernel_rfl)) ?_
    refine Sy.stepD 3 rfl (by kernel_rfl) (fun _ _ _ _ h => h) (by kernel_rfl) (.bool false) (Quiet.pure (fun _ => by kernel_rfl)) ?_
    refine Sy.stepD 4 rfl (by kernel_rfl) (fun _ _ _ _ h => h) (by kernel_rfl) (.bool false) (Quiet.pure (fun _ => by kernel_rfl)) ?_
    refine Sy.stepD 5 rfl (by kernel_rfl) (fun _ _ _ _ h => h) (by kernel_rfl) (.int .i64 25) (Quiet.pure (fun _ => by kernel_rfl)) ?_
    refine Sy.stepD 6 rfl (by kernel_rfl) (fun _ _ _ _ h => h) (by kernel_rfl) (.pointer (some ⟨g37, 25, none⟩)) (Quiet.pure (fun _ => by kernel_rfl)) ?_
    refine Sy.stepD 7 rfl (by kernel_rfl) (fun _ _ _ _ h => h) (by kernel_rfl) (bv (b.getD 25 0)) (Quiet.cell 0 g37 25 45 5 (b.map bv).toArray _ _ rfl (by kernel_rfl) (by kernel_rfl) Try.underlying5 rfl _ (key_at b hn 25 (by decide))) ?_
    refine Sy.stepD 8 rfl (by kernel_rfl) (fun _ _ _ _ h => h) (by kernel_rfl) (.slice (some ⟨ga, oa, none⟩) 33 c) (Quiet.pure (fun _ => by kernel_rfl)) ?_
    refine Sy.stepD 9 rfl (by kernel_rfl) (fun _ _ _ _ h => h) (by kernel_rfl) (.int .i64 25) (Quiet.pure (fun _ => by kernel_rfl)) ?_
    refine Sy.stepD 10 rfl (by kernel_rfl) (fun _ _ _ _ h => h) (by kernel_rfl) (.pointer (some ⟨ga, oa + 25, none⟩)) (Quiet.pure (fun w => exec_index 44 _ _ ga (oa) 33 (c) 25 rfl (by kernel_rfl) (by kernel_rfl) (by kernel_rfl) (fun _ => by kernel_rfl) (by decide) w)) ?_
    refine Sy.stepD 11 rfl (by kernel_rfl) (fun _ _ _ _ h => h) (by kernel_rfl) (bv (b.getD 25 0)) (Quiet.thereOne ga (oa + 25) 5 _ _ rfl (by kernel_rfl) hsl.1 _ (src_one hsl 25 _ (one_at b hn 25 (by decide))) Try.underlying5 rfl) ?_
    refine Sy.stepD 12 rfl (by kernel_rfl) (fun _ _ _ _ h => h) (by kernel_rfl) (.bool false) (Quiet.pure (fun w => neq_u8_same w _ _ _ _ (b.getD 25 0) rfl rfl rfl)) ?_
    refine Sy.stepD 13 rfl (by kernel_rfl) (fun _ _ _ _ h => h) (by kernel_rfl) (.bool false) (Quiet.pure (fun _ => by kernel_rfl)) ?_
    refine Sy.doneD (by kernel_rfl) ?_
    refine Sy.then_ ?_
    refine Sy.cond_f (by kernel_rfl) (by kernel_rfl) ?_
    refine Sy.skip ?_
    refine Sy.in_ ?_
    refine Sy.then_ ?_
    refine Sy.region ?_
    refine Sy.step (by kernel_rfl) (.int .i64 26) (Quiet.pure (fun _ => by kernel_rfl)) ?_
    refine Sy.step (by kernel_rfl) (.int .i64 26) (Quiet.pure (fun _ => by kernel_rfl)) ?_
    refine Sy.nil ?_
    refine Sy.again ?_
    refine Sy.tidyR (G := [(1, .slice (some ⟨ga, oa, none⟩) 33 c), (12, .pointer (some ⟨g37, 0, none⟩)), (55, .int .i64 26)]) (M := [(g37, 45, (b.map bv).toArray)]) [true] (by kernel_rfl) (all_cons (by kernel_rfl) (all_cons (by kernel_rfl) (all_cons (by kernel_rfl) all_nil))) ?_
    refine Sy.round ?_
    refine Sy.seq ?_
    refine Sy.region ?_
    refine Sy.step (by kernel_rfl) (.bool true) (Quiet.pure (fun _ => by kernel_rfl)) ?_
    refine Sy.nil ?_
    refine Sy.then_ ?_
    refine Sy.seq ?_
    refine Sy.cond_t (by kernel_rfl) (by kernel_rfl) ?_
    refine Sy.skip ?_
    refine Sy.then_ ?_
    refine Sy.seq ?_
    refine Sy.block ?_
    refine Sy.seq ?_
    refine Sy.region ?_
    refine Sy.step (by kernel_rfl) (.int .i64 26) (Quiet.pure (fun _ => by kernel_rfl)) ?_
    refine Sy.step (by kernel_rfl) (.int .i64 26) (Quiet.pure (fun _ => by kernel_rfl)) ?_
    refine Sy.nil ?_
    refine Sy.then_ ?_
    refine Sy.seq ?_
    refine Sy.regionD (fun j => false) (by kernel_rfl) ?_
    refine Sy.stepD 0 rfl (by kernel_rfl) (fun _ _ _ _ h => h) (by kernel_rfl) (.int .i64 26) (Quiet.pure (fun _ => by kernel_rfl)) ?_
    refine Sy.stepD 1 rfl (by kernel_rfl) (fun _ _ _ _ h => h) (by kernel_rfl) (.slice (some ⟨ga, oa, none⟩) 33 c) (Quiet.pure (fun _ => by kernel_rfl)) ?_
    refine Sy.stepD 2 rfl (by kernel_rfl) (fun _ _ _ _ h => h) (by kernel_rfl) (.int .i64 33) (Quiet.pure (fun _ => by kernel_rfl)) ?_
    refine Sy.stepD 3 rfl (by kernel_rfl) (fun _ _ _ _ h => h) (by kernel_rfl) (.bool false) (Quiet.pure (fun _ => by kernel_rfl)) ?_
    refine Sy.stepD 4 rfl (by kernel_rfl) (fun _ _ _ _ h => h) (by kernel_rfl) (.bool false) (Quiet.pure (fun _ => by kernel_rfl)) ?_
    refine Sy.stepD 5 rfl (by kernel_rfl) (fun _ _ _ _ h => h) (by kernel_rfl) (.int .i64 26) (Quiet.pure (fun _ => by kernel_rfl)) ?_
    refine Sy.stepD 6 rfl (by kernel_rfl) (fun _ _ _ _ h => h) (by kernel_rfl) (.pointer (some ⟨g37, 26, none⟩)) (Quiet.pure (fun _ => by kernel_rfl)) ?_
    refine Sy.stepD 7 rfl (by kernel_rfl) (fun _ _ _ _ h => h) (by kernel_rfl) (bv (b.getD 26 0)) (Quiet.cell 0 g37 26 45 5 (b.map bv).toArray _ _ rfl (by kernel_rfl) (by kernel_rfl) Try.underlying5 rfl _ (key_at b hn 26 (by decide))) ?_
    refine Sy.stepD 8 rfl (by kernel_rfl) (fun _ _ _ _ h => h) (by kernel_rfl) (.slice (some ⟨ga, oa, none⟩) 33 c) (Quiet.pure (fun _ => by kernel_rfl)) ?_
    refine Sy.stepD 9 rfl (by kernel_rfl) (fun _ _ _ _ h => h) (by kernel_rfl) (.int .i64 26) (Quiet.pure (fun _ => by kernel_rfl)) ?_
    refine Sy.stepD 10 rfl (by kernel_rfl) (fun _ _ _ _ h => h) (by kernel_rfl) (.pointer (some ⟨ga, oa + 26, none⟩)) (Quiet.pure (fun w => exec_index 44 _ _ ga (oa) 33 (c) 26 rfl (by kernel_rfl) (by kernel_rfl) (by kernel_rfl) (fun _ => by kernel_rfl) (by decide) w)) ?_
    refine Sy.stepD 11 rfl (by kernel_rfl) (fun _ _ _ _ h => h) (by kernel_rfl) (bv (b.getD 26 0)) (Quiet.thereOne ga (oa + 26) 5 _ _ rfl (by kernel_rfl) hsl.1 _ (src_one hsl 26 _ (one_at b hn 26 (by decide))) Try.underlying5 rfl) ?_
    refine Sy.stepD 12 rfl (by kernel_rfl) (fun _ _ _ _ h => h) (by kernel_rfl) (.bool false) (Quiet.pure (fun w => neq_u8_same w _ _ _ _ (b.getD 26 0) rfl rfl rfl)) ?_
    refine Sy.stepD 13 rfl (by kernel_rfl) (fun _ _ _ _ h => h) (by kernel_rfl) (.bool false) (Quiet.pure (fun _ => by kernel_rfl)) ?_
    refine Sy.doneD (by kernel_rfl) ?_
    refine Sy.then_ ?_
    refine Sy.cond_f (by kernel_rfl) (by kernel_rfl) ?_
    refine Sy.skip ?_
    refine Sy.in_ ?_
    refine Sy.then_ ?_
    refine Sy.region ?_
    refine Sy.step (by kernel_rfl) (.int .i64 27) (Quiet.pure (fun _ => by kernel_rfl)) ?_
    refine Sy.step (by kernel_rfl) (.int .i64 27) (Quiet.pure (fun _ => by kernel_rfl)) ?_
    refine Sy.nil ?_
    refine Sy.again ?_
    refine Sy.tidyR (G := [(1, .slice (some ⟨ga, oa, none⟩) 33 c), (12, .pointer (some ⟨g37, 0, none⟩)), (55, .int .i64 27)]) (M := [(g37, 45, (b.map bv).toArray)]) [true] (by kernel_rfl) (all_cons (by kernel_rfl) (all_cons (by kernel_rfl) (all_cons (by kernel_rfl) all_nil))) ?_
    refine Sy.round ?_
    refine Sy.seq ?_
    refine Sy.region ?_
    refine Sy.step (by kernel_rfl) (.bool true) (Quiet.pure (fun _ => by kernel_rfl)) ?_
    refine Sy.nil ?_
    refine Sy.then_ ?_
    refine Sy.seq ?_
    refine Sy.cond_t (by kernel_rfl) (by kernel_rfl) ?_
    refine Sy.skip ?_
    refine Sy.then_ ?_
    refine Sy.seq ?_
    refine Sy.block ?_
    refine Sy.seq ?_
    refine Sy.region ?_
    refine Sy.step (by kernel_rfl) (.int .i64 27) (Quiet.pure (fun _ => by kernel_rfl)) ?_
    refine Sy.step (by kernel_rfl) (.int .i64 27) (Quiet.pure (fun _ => by kernel_rfl)) ?_
    refine Sy.nil ?_
    refine Sy.then_ ?_
    refine Sy.seq ?_
    refine Sy.regionD (fun j => false) (by kernel_rfl) ?_
    refine Sy.stepD 0 rfl (by kernel_rfl) (fun _ _ _ _ h => h) (by kernel_rfl) (.int .i64 27) (Quiet.pure (fun _ => by kernel_rfl)) ?_
    refine Sy.stepD 1 rfl (by kernel_rfl) (fun _ _ _ _ h => h) (by kernel_rfl) (.slice (some ⟨ga, oa, none⟩) 33 c) (Quiet.pure (fun _ => by kernel_rfl)) ?_
    refine Sy.stepD 2 rfl (by kernel_rfl) (fun _ _ _ _ h => h) (by kernel_rfl) (.int .i64 33) (Quiet.pure (fun _ => by kernel_rfl)) ?_
    refine Sy.stepD 3 rfl (by kernel_rfl) (fun _ _ _ _ h => h) (by kernel_rfl) (.bool false) (Quiet.pure (fun _ => by kernel_rfl)) ?_
    refine Sy.stepD 4 rfl (by kernel_rfl) (fun _ _ _ _ h => h) (by kernel_rfl) (.bool false) (Quiet.pure (fun _ => by kernel_rfl)) ?_
    refine Sy.stepD 5 rfl (by kernel_rfl) (fun _ _ _ _ h => h) (by kernel_rfl) (.int .i64 27) (Quiet.pure (fun _ => by kernel_rfl)) ?_
    refine Sy.stepD 6 rfl (by kernel_rfl) (fun _ _ _ _ h => h) (by kernel_rfl) (.pointer (some ⟨g37, 27, none⟩)) (Quiet.pure (fun _ => by kernel_rfl)) ?_
    refine Sy.stepD 7 rfl (by kernel_rfl) (fun _ _ _ _ h => h) (by kernel_rfl) (bv (b.getD 27 0)) (Quiet.cell 0 g37 27 45 5 (b.map bv).toArray _ _ rfl (by kernel_rfl) (by kernel_rfl) Try.underlying5 rfl _ (key_at b hn 27 (by decide))) ?_
    refine Sy.stepD 8 rfl (by kernel_rfl) (fun _ _ _ _ h => h) (by kernel_rfl) (.slice (some ⟨ga, oa, none⟩) 33 c) (Quiet.pure (fun _ => by kernel_rfl)) ?_
    refine Sy.stepD 9 rfl (by kernel_rfl) (fun _ _ _ _ h => h) (by kernel_rfl) (.int .i64 27) (Quiet.pure (fun _ => by kernel_rfl)) ?_
    refine Sy.stepD 10 rfl (by kernel_rfl) (fun _ _ _ _ h => h) (by kernel_rfl) (.pointer (some ⟨ga, oa + 27, none⟩)) (Quiet.pure (fun w => exec_index 44 _ _ ga (oa) 33 (c) 27 rfl (by kernel_rfl) (by kernel_rfl) (by kernel_rfl) (fun _ => by kernel_rfl) (by decide) w)) ?_
    refine Sy.stepD 11 rfl (by kernel_rfl) (fun _ _ _ _ h => h) (by kernel_rfl) (bv (b.getD 27 0)) (Quiet.thereOne ga (oa + 27) 5 _ _ rfl (by kernel_rfl) hsl.1 _ (src_one hsl 27 _ (one_at b hn 27 (by decide))) Try.underlying5 rfl) ?_
    refine Sy.stepD 12 rfl (by kernel_rfl) (fun _ _ _ _ h => h) (by kernel_rfl) (.bool false) (Quiet.pure (fun w => neq_u8_same w _ _ _ _ (b.getD 27 0) rfl rfl rfl)) ?_
    refine Sy.stepD 13 rfl (by kernel_rfl) (fun _ _ _ _ h => h) (by kernel_rfl) (.bool false) (Quiet.pure (fun _ => by kernel_rfl)) ?_
    refine Sy.doneD (by kernel_rfl) ?_
    refine Sy.then_ ?_
    refine Sy.cond_f (by kernel_rfl) (by kernel_rfl) ?_
    refine Sy.skip ?_
    refine Sy.in_ ?_
    refine Sy.then_ ?_
    refine Sy.region ?_
    refine Sy.step (by kernel_rfl) (.int .i64 28) (Quiet.pure (fun _ => by kernel_rfl)) ?_
    refine Sy.step (by kernel_rfl) (.int .i64 28) (Quiet.pure (fun _ => by kernel_rfl)) ?_
    refine Sy.nil ?_
    refine Sy.again ?_
    refine Sy.tidyR (G := [(1, .slice (some ⟨ga, oa, none⟩) 33 c), (12, .pointer (some ⟨g37, 0, none⟩)), (55, .int .i64 28)]) (M := [(g37, 45, (b.map bv).toArray)]) [true] (by kernel_rfl) (all_cons (by kernel_rfl) (all_cons (by kernel_rfl) (all_cons (by kernel_rfl) all_nil))) ?_
    refine Sy.round ?_
    refine Sy.seq ?_
    refine Sy.region ?_
    refine Sy.step (by kernel_rfl) (.bool true) (Quiet.pure (fun _ => by kernel_rfl)) ?_
    refine Sy.nil ?_
    refine Sy.then_ ?_
    refine Sy.seq ?_
    refine Sy.cond_t (by kernel_rfl) (by kernel_rfl) ?_
    refine Sy.skip ?_
    refine Sy.then_ ?_
    refine Sy.seq ?_
    refine Sy.block ?_
    refine Sy.seq ?_
    refine Sy.region ?_
    refine Sy.step (by kernel_rfl) (.int .i64 28) (Quiet.pure (fun _ => by kernel_rfl)) ?_
    refine Sy.step (by kernel_rfl) (.int .i64 28) (Quiet.pure (fun _ => by kernel_rfl)) ?_
    refine Sy.nil ?_
    refine Sy.then_ ?_
    refine Sy.seq ?_
    refine Sy.regionD (fun j => false) (by kernel_rfl) ?_
    refine Sy.stepD 0 rfl (by kernel_rfl) (fun _ _ _ _ h => h) (by kernel_rfl) (.int .i64 28) (Quiet.pure (fun _ => by kernel_rfl)) ?_
    refine Sy.stepD 1 rfl (by kernel_rfl) (fun _ _ _ _ h => h) (by kernel_rfl) (.slice (some ⟨ga, oa, none⟩) 33 c) (Quiet.pure (fun _ => by kernel_rfl)) ?_
    refine Sy.stepD 2 rfl (by kernel_rfl) (fun _ _ _ _ h => h) (by kernel_rfl) (.int .i64 33) (Quiet.pure (fun _ => by kernel_rfl)) ?_
    refine Sy.stepD 3 rfl (by kernel_rfl) (fun _ _ _ _ h => h) (by kernel_rfl) (.bool false) (Quiet.pure (fun _ => by kernel_rfl)) ?_
    refine Sy.stepD 4 rfl (by kernel_rfl) (fun _ _ _ _ h => h) (by kernel_rfl) (.bool false) (Quiet.pure (fun _ => by kernel_rfl)) ?_
    refine Sy.stepD 5 rfl (by kernel_rfl) (fun _ _ _ _ h => h) (by kernel_rfl) (.int .i64 28) (Quiet.pure (fun _ => by kernel_rfl)) ?_
    refine Sy.stepD 6 rfl (by kernel_rfl) (fun _ _ _ _ h => h) (by kernel_rfl) (.pointer (some ⟨g37, 28, none⟩)) (Quiet.pure (fun _ => by kernel_rfl)) ?_
    refine Sy.stepD 7 rfl (by kernel_rfl) (fun _ _ _ _ h => h) (by kernel_rfl) (bv (b.getD 28 0)) (Quiet.cell 0 g37 28 45 5 (b.map bv).toArray _ _ rfl (by kernel_rfl) (by kernel_rfl) Try.underlying5 rfl _ (key_at b hn 28 (by decide))) ?_
    refine Sy.stepD 8 rfl (by kernel_rfl) (fun _ _ _ _ h => h) (by kernel_rfl) (.slice (some ⟨ga, oa, none⟩) 33 c) (Quiet.pure (fun _ => by kernel_rfl)) ?_
    refine Sy.stepD 9 rfl (by kernel_rfl) (fun _ _ _ _ h => h) (by kernel_rfl) (.int .i64 28) (Quiet.pure (fun _ => by kernel_rfl)) ?_
    refine Sy.stepD 10 rfl (by kernel_rfl) (fun _ _ _ _ h => h) (by kernel_rfl) (.pointer (some ⟨ga, oa + 28, none⟩)) (Quiet.pure (fun w => exec_index 44 _ _ ga (oa) 33 (c) 28 rfl (by kernel_rfl) (by kernel_rfl) (by kernel_rfl) (fun _ => by kernel_rfl) (by decide) w)) ?_
    refine Sy.stepD 11 rfl (by kernel_rfl) (fun _ _ _ _ h => h) (by kernel_rfl) (bv (b.getD 28 0)) (Quiet.thereOne ga (oa + 28) 5 _ _ rfl (by kernel_rfl) hsl.1 _ (src_one hsl 28 _ (one_at b hn 28 (by decide))) Try.underlying5 rfl) ?_
    refine Sy.stepD 12 rfl (by kernel_rfl) (fun _ _ _ _ h => h) (by kernel_rfl) (.bool false) (Quiet.pure (fun w => neq_u8_same w _ _ _ _ (b.getD 28 0) rfl rfl rfl)) ?_
    refine Sy.stepD 13 rfl (by kernel_rfl) (fun _ _ _ _ h => h) (by kernel_rfl) (.bool false) (Quiet.pure (fun _ => by kernel_rfl)) ?_
    refine Sy.doneD (by kernel_rfl) ?_
    refine Sy.then_ ?_
    refine Sy.cond_f (by kernel_rfl) (by kernel_rfl) ?_
    refine Sy.skip ?_
    refine Sy.in_ ?_
    refine Sy.then_ ?_
    refine Sy.region ?_
    refine Sy.step (by kernel_rfl) (.int .i64 29) (Quiet.pure (fun _ => by kernel_rfl)) ?_
    refine Sy.step (by kernel_rfl) (.int .i64 29) (Quiet.pure (fun _ => by kernel_rfl)) ?_
    refine Sy.nil ?_
    refine Sy.again ?_
    refine Sy.tidyR (G := [(1, .slice (some ⟨ga, oa, none⟩) 33 c), (12, .pointer (some ⟨g37, 0, none⟩)), (55, .int .i64 29)]) (M := [(g37, 45, (b.map bv).toArray)]) [true] (by kernel_rfl) (all_cons (by kernel_rfl) (all_cons (by kernel_rfl) (all_cons (by kernel_rfl) all_nil))) ?_
    refine Sy.round ?_
    refine Sy.seq ?_
    refine Sy.region ?_
    refine Sy.step (by kernel_rfl) (.bool true) (Quiet.pure (fun _ => by kernel_rfl)) ?_
    refine Sy.nil ?_
    refine Sy.then_ ?_
    refine Sy.seq ?_
    refine Sy.cond_t (by kernel_rfl) (by kernel_rfl) ?_
    refine Sy.skip ?_
    refine Sy.then_ ?_
    refine Sy.seq ?_
    refine Sy.block ?_
    refine Sy.seq ?_
    refine Sy.region ?_
    refine Sy.step (by kernel_rfl) (.int .i64 29) (Quiet.pure (fun _ => by kernel_rfl)) ?_
    refine Sy.step (by kernel_rfl) (.int .i64 29) (Quiet.pure (fun _ => by kernel_rfl)) ?_
    refine Sy.nil ?_
    refine Sy.then_ ?_
    refine Sy.seq ?_
    refine Sy.regionD (fun j => false) (by kernel_rfl) ?_
    refine Sy.stepD 0 rfl (by kernel_rfl) (fun _ _ _ _ h => h) (by kernel_rfl) (.int .i64 29) (Quiet.pure (fun _ => by kernel_rfl)) ?_
    refine Sy.stepD 1 rfl (by kernel_rfl) (fun _ _ _ _ h => h) (by kernel_rfl) (.slice (some ⟨ga, oa, none⟩) 33 c) (Quiet.pure (fun _ => by kernel_rfl)) ?_
    refine Sy.stepD 2 rfl (by kernel_rfl) (fun _ _ _ _ h => h) (by kernel_rfl) (.int .i64 33) (Quiet.pure (fun _ => by kernel_rfl)) ?_
    refine Sy.stepD 3 rfl (by kernel_rfl) (fun _ _ _ _ h => h) (by kernel_rfl) (.bool false) (Quiet.pure (fun _ => by kernel_rfl)) ?_
    refine Sy.stepD 4 rfl (by kernel_rfl) (fun _ _ _ _ h => h) (by kernel_rfl) (.bool false) (Quiet.pure (fun _ => by kernel_rfl)) ?_
    refine Sy.stepD 5 rfl (by kernel_rfl) (fun _ _ _ _ h => h) (by kernel_rfl) (.int .i64 29) (Quiet.pure (fun _ => by kernel_rfl)) ?_
    refine Sy.stepD 6 rfl (by kernel_rfl) (fun _ _ _ _ h => h) (by kernel_rfl) (.pointer (some ⟨g37, 29, none⟩)) (Quiet.pure (fun _ => by kernel_rfl)) ?_
    refine Sy.stepD 7 rfl (by kernel_rfl) (fun _ _ _ _ h => h) (by kernel_rfl) (bv (b.getD 29 0)) (Quiet.cell 0 g37 29 45 5 (b.map bv).toArray _ _ rfl (by kernel_rfl) (by kernel_rfl) Try.underlying5 rfl _ (key_at b hn 29 (by decide))) ?_
    refine Sy.stepD 8 rfl (by kernel_rfl) (fun _ _ _ _ h => h) (by kernel_rfl) (.slice (some ⟨ga, oa, none⟩) 33 c) (Quiet.pure (fun _ => by kernel_rfl)) ?_
    refine Sy.stepD 9 rfl (by kernel_rfl) (fun _ _ _ _ h => h) (by kernel_rfl) (.int .i64 29) (Quiet.pure (fun _ => by kernel_rfl)) ?_
    refine Sy.stepD 10 rfl (by kernel_rfl) (fun _ _ _ _ h => h) (by kernel_rfl) (.pointer (some ⟨ga, oa + 29, none⟩)) (Quiet.pure (fun w => exec_index 44 _ _ ga (oa) 33 (c) 29 rfl (by kernel_rfl) (by kernel_rfl) (by kernel_rfl) (fun _ => by kernel_rfl) (by decide) w)) ?_
    refine Sy.stepD 11 rfl (by kernel_rfl) (fun _ _ _ _ h => h) (by kernel_rfl) (bv (b.getD 29 0)) (Quiet.thereOne ga (oa + 29) 5 _ _ rfl (by kernel_rfl) hsl.1 _ (src_one hsl 29 _ (one_at b hn 29 (by decide))) Try.underlying5 rfl) ?_
    refine Sy.stepD 12 rfl (by kernel_rfl) (fun _ _ _ _ h => h) (by kernel_rfl) (.bool false) (Quiet.pure (fun w => neq_u8_same w _ _ _ _ (b.getD 29 0) rfl rfl rfl)) ?_
    refine Sy.stepD 13 rfl (by kernel_rfl) (fun _ _ _ _ h => h) (by kernel_rfl) (.bool false) (Quiet.pure (fun _ => by kernel_rfl)) ?_
    refine Sy.doneD (by kernel_rfl) ?_
    refine Sy.then_ ?_
    refine Sy.cond_f (by kernel_rfl) (by kernel_rfl) ?_
    refine Sy.skip ?_
    refine Sy.in_ ?_
    refine Sy.then_ ?_
    refine Sy.region ?_
    refine Sy.step (by kernel_rfl) (.int .i64 30) (Quiet.pure (fun _ => by kernel_rfl)) ?_
    refine Sy.step (by kernel_rfl) (.int .i64 30) (Quiet.pure (fun _ => by kernel_rfl)) ?_
    refine Sy.nil ?_
    refine Sy.again ?_
    refine Sy.tidyR (G := [(1, .slice (some ⟨ga, oa, none⟩) 33 c), (12, .pointer (some ⟨g37, 0, none⟩)), (55, .int .i64 30)]) (M := [(g37, 45, (b.map bv).toArray)]) [true] (by kernel_rfl) (all_cons (by kernel_rfl) (all_cons (by kernel_rfl) (all_cons (by kernel_rfl) all_nil))) ?_
    refine Sy.round ?_
    refine Sy.seq ?_
    refine Sy.region ?_
    refine Sy.step (by kernel_rfl) (.bool true) (Quiet.pure (fun _ => by kernel_rfl)) ?_
    refine Sy.nil ?_
    refine Sy.then_ ?_
    refine Sy.seq ?_
    refine Sy.cond_t (by kernel_rfl) (by kernel_rfl) ?_
    refine Sy.skip ?_
    refine Sy.then_ ?_
    refine Sy.seq ?_
    refine Sy.block ?_
    refine Sy.seq ?_
    refine Sy.region ?_
    refine Sy.step (by kernel_rfl) (.int .i64 30) (Quiet.pure (fun _ => by kernel_rfl)) ?_
    refine Sy.step (by kernel_rfl) (.int .i64 30) (Quiet.pure (fun _ => by kernel_rfl)) ?_
    refine Sy.nil ?_
    refine Sy.then_ ?_
    refine Sy.seq ?_
    refine Sy.regionD (fun j => false) (by kernel_rfl) ?_
    refine Sy.stepD 0 rfl (by kernel_rfl) (fun _ _ _ _ h => h) (by kernel_rfl) (.int .i64 30) (Quiet.pure (fun _ => by kernel_rfl)) ?_
    refine Sy.stepD 1 rfl (by kernel_rfl) (fun _ _ _ _ h => h) (by kernel_rfl) (.slice (some ⟨ga, oa, none⟩) 33 c) (Quiet.pure (fun _ => by kernel_rfl)) ?_
    refine Sy.stepD 2 rfl (by kernel_rfl) (fun _ _ _ _ h => h) (by kernel_rfl) (.int .i64 33) (Quiet.pure (fun _ => by kernel_rfl)) ?_
    refine Sy.stepD 3 rfl (by kernel_rfl) (fun _ _ _ _ h => h) (by kernel_rfl) (.bool false) (Quiet.pure (fun _ => by kernel_rfl)) ?_
    refine Sy.stepD 4 rfl (by kernel_rfl) (fun _ _ _ _ h => h) (by kernel_rfl) (.bool false) (Quiet.pure (fun _ => by kernel_rfl)) ?_
    refine Sy.stepD 5 rfl (by kernel_rfl) (fun _ _ _ _ h => h) (by kernel_rfl) (.int .i64 30) (Quiet.pure (fun _ => by kernel_rfl)) ?_
    refine Sy.stepD 6 rfl (by kernel_rfl) (fun _ _ _ _ h => h) (by kernel_rfl) (.pointer (some ⟨g37, 30, none⟩)) (Quiet.pure (fun _ => by kernel_rfl)) ?_
    refine Sy.stepD 7 rfl (by kernel_rfl) (fun _ _ _ _ h => h) (by kernel_rfl) (bv (b.getD 30 0)) (Quiet.cell 0 g37 30 45 5 (b.map bv).toArray _ _ rfl (by kernel_rfl) (by kernel_rfl) Try.underlying5 rfl _ (key_at b hn 30 (by decide))) ?_
    refine Sy.stepD 8 rfl (by kernel_rfl) (fun _ _ _ _ h => h) (by kernel_rfl) (.slice (some ⟨ga, oa, none⟩) 33 c) (Quiet.pure (fun _ => by kernel_rfl)) ?_
    refine Sy.stepD 9 rfl (by kernel_rfl) (fun _ _ _ _ h => h) (by kernel_rfl) (.int .i64 30) (Quiet.pure (fun _ => by kernel_rfl)) ?_
    refine Sy.stepD 10 rfl (by kernel_rfl) (fun _ _ _ _ h => h) (by kernel_rfl) (.pointer (some ⟨ga, oa + 30, none⟩)) (Quiet.pure (fun w => exec_index 44 _ _ ga (oa) 33 (c) 30 rfl (by kernel_rfl) (by kernel_rfl) (by kernel_rfl) (fun _ => by kernel_rfl) (by decide) w)) ?_
    refine Sy.stepD 11 rfl (by kernel_rfl) (fun _ _ _ _ h => h) (by kernel_rfl) (bv (b.getD 30 0)) (Quiet.thereOne ga (oa + 30) 5 _ _ rfl (by kernel_rfl) hsl.1 _ (src_one hsl 30 _ (one_at b hn 30 (by decide))) Try.underlying5 rfl) ?_
    refine Sy.stepD 12 rfl (by kernel_rfl) (fun _ _ _ _ h => h) (by kernel_rfl) (.bool false) (Quiet.pure (fun w => neq_u8_same w _ _ _ _ (b.getD 30 0) rfl rfl rfl)) ?_
    refine Sy.stepD 13 rfl (by kernel_rfl) (fun _ _ _ _ h => h) (by kernel_rfl) (.bool false) (Quiet.pure (fun _ => by kernel_rfl)) ?_
    refine Sy.doneD (by kernel_rfl) ?_
    refine Sy.then_ ?_
    refine Sy.cond_f (by kernel_rfl) (by kernel_rfl) ?_
    refine Sy.skip ?_
    refine Sy.in_ ?_
    refine Sy.then_ ?_
    refine Sy.region ?_
    refine Sy.step (by kernel_rfl) (.int .i64 31) (Quiet.pure (fun _ => by kernel_rfl)) ?_
    refine Sy.step (by kernel_rfl) (.int .i64 31) (Quiet.pure (fun _ => by kernel_rfl)) ?_
    refine Sy.nil ?_
    refine Sy.again ?_
    refine Sy.tidyR (G := [(1, .slice (some ⟨ga, oa, none⟩) 33 c), (12, .pointer (some ⟨g37, 0, none⟩)), (55, .int .i64 31)]) (M := [(g37, 45, (b.map bv).toArray)]) [true] (by kernel_rfl) (all_cons (by kernel_rfl) (all_cons (by kernel_rfl) (all_cons (by kernel_rfl) all_nil))) ?_
    refine Sy.round ?_
    refine Sy.seq ?_
    refine Sy.region ?_
    refine Sy.step (by kernel_rfl) (.bool true) (Quiet.pure (fun _ => by kernel_rfl)) ?_
    refine Sy.nil ?_
    refine Sy.then_ ?_
    refine Sy.seq ?_
    refine Sy.cond_t (by kernel_rfl) (by kernel_rfl) ?_
    refine Sy.skip ?_
    refine Sy.then_ ?_
    refine Sy.seq ?_
    refine Sy.block ?_
    refine Sy.seq ?_
    refine Sy.region ?_
    refine Sy.step (by kernel_rfl) (.int .i64 31) (Quiet.pure (fun _ => by kernel_rfl)) ?_
    refine Sy.step (by kernel_rfl) (.int .i64 31) (Quiet.pure (fun _ => by kernel_rfl)) ?_
    refine Sy.nil ?_
    refine Sy.then_ ?_
    refine Sy.seq ?_
    refine Sy.regionD (fun j => false) (by kernel_rfl) ?_
    refine Sy.stepD 0 rfl (by kernel_rfl) (fun _ _ _ _ h => h) (by kernel_rfl) (.int .i64 31) (Quiet.pure (fun _ => by kernel_rfl)) ?_
    refine Sy.stepD 1 rfl (by kernel_rfl) (fun _ _ _ _ h => h) (by kernel_rfl) (.slice (some ⟨ga, oa, none⟩) 33 c) (Quiet.pure (fun _ => by kernel_rfl)) ?_
    refine Sy.stepD 2 rfl (by kernel_rfl) (fun _ _ _ _ h => h) (by kernel_rfl) (.int .i64 33) (Quiet.pure (fun _ => by kernel_rfl)) ?_
    refine Sy.stepD 3 rfl (by kernel_rfl) (fun _ _ _ _ h => h) (by kernel_rfl) (.bool false) (Quiet.pure (fun _ => by kernel_rfl)) ?_
    refine Sy.stepD 4 rfl (by kernel_rfl) (fun _ _ _ _ h => h) (by kernel_rfl) (.bool false) (Quiet.pure (fun _ => by kernel_rfl)) ?_
    refine Sy.stepD 5 rfl (by kernel_rfl) (fun _ _ _ _ h => h) (by kernel_rfl) (.int .i64 31) (Quiet.pure (fun _ => by kernel_rfl)) ?_
    refine Sy.stepD 6 rfl (by kernel_rfl) (fun _ _ _ _ h => h) (by kernel_rfl) (.pointer (some ⟨g37, 31, none⟩)) (Quiet.pure (fun _ => by kernel_rfl)) ?_
    refine Sy.stepD 7 rfl (by kernel_rfl) (fun _ _ _ _ h => h) (by kernel_rfl) (bv (b.getD 31 0)) (Quiet.cell 0 g37 31 45 5 (b.map bv).toArray _ _ rfl (by kernel_rfl) (by kernel_rfl) Try.underlying5 rfl _ (key_at b hn 31 (by decide))) ?_
    refine Sy.stepD 8 rfl (by kernel_rfl) (fun _ _ _ _ h => h) (by kernel_rfl) (.slice (some ⟨ga, oa, none⟩) 33 c) (Quiet.pure (fun _ => by kernel_rfl)) ?_
    refine Sy.stepD 9 rfl (by kernel_rfl) (fun _ _ _ _ h => h) (by kernel_rfl) (.int .i64 31) (Quiet.pure (fun _ => by kernel_rfl)) ?_
    refine Sy.stepD 10 rfl (by kernel_rfl) (fun _ _ _ _ h => h) (by kernel_rfl) (.pointer (some ⟨ga, oa + 31, none⟩)) (Quiet.pure (fun w => exec_index 44 _ _ ga (oa) 33 (c) 31 rfl (by kernel_rfl) (by kernel_rfl) (by kernel_rfl) (fun _ => by kernel_rfl) (by decide) w)) ?_
    refine Sy.stepD 11 rfl (by kernel_rfl) (fun _ _ _ _ h => h) (by kernel_rfl) (bv (b.getD 31 0)) (Quiet.thereOne ga (oa + 31) 5 _ _ rfl (by kernel_rfl) hsl.1 _ (src_one hsl 31 _ (one_at b hn 31 (by decide))) Try.underlying5 rfl) ?_
    refine Sy.stepD 12 rfl (by kernel_rfl) (fun _ _ _ _ h => h) (by kernel_rfl) (.bool false) (Quiet.pure (fun w => neq_u8_same w _ _ _ _ (b.getD 31 0) rfl rfl rfl)) ?_
    refine Sy.stepD 13 rfl (by kernel_rfl) (fun _ _ _ _ h => h) (by kernel_rfl) (.bool false) (Quiet.pure (fun _ => by kernel_rfl)) ?_
    refine Sy.doneD (by kernel_rfl) ?_
    refine Sy.then_ ?_
    refine Sy.cond_f (by kernel_rfl) (by kernel_rfl) ?_
    refine Sy.skip ?_
    refine Sy.in_ ?_
    refine Sy.then_ ?_
    refine Sy.region ?_
    refine Sy.step (by kernel_rfl) (.int .i64 32) (Quiet.pure (fun _ => by kernel_rfl)) ?_
    refine Sy.step (by kernel_rfl) (.int .i64 32) (Quiet.pure (fun _ => by kernel_rfl)) ?_
    refine Sy.nil ?_
    refine Sy.again ?_
    refine Sy.tidyR (G := [(1, .slice (some ⟨ga, oa, none⟩) 33 c), (12, .pointer (some ⟨g37, 0, none⟩)), (55, .int .i64 32)]) (M := [(g37, 45, (b.map bv).toArray)]) [true] (by kernel_rfl) (all_cons (by kernel_rfl) (all_cons (by kernel_rfl) (all_cons (by kernel_rfl) all_nil))) ?_
    refine Sy.round ?_
    refine Sy.seq ?_
    refine Sy.region ?_
    refine Sy.step (by kernel_rfl) (.bool true) (Quiet.pure (fun _ => by kernel_rfl)) ?_
    refine Sy.nil ?_
    refine Sy.then_ ?_
    refine Sy.seq ?_
    refine Sy.cond_t (by kernel_rfl) (by kernel_rfl) ?_
    refine Sy.skip ?_
    refine Sy.then_ ?_
    refine Sy.seq ?_
    refine Sy.block ?_
    refine Sy.seq ?_
    refine Sy.region ?_
    refine Sy.step (by kernel_rfl) (.int .i64 32) (Quiet.pure (fun _ => by kernel_rfl)) ?_
    refine Sy.step (by kernel_rfl) (.int .i64 32) (Quiet.pure (fun _ => by kernel_rfl)) ?_
    refine Sy.nil ?_
    refine Sy.then_ ?_
    refine Sy.seq ?_
    refine Sy.regionD (fun j => false) (by kernel_rfl) ?_
    refine Sy.stepD 0 rfl (by kernel_rfl) (fun _ _ _ _ h => h) (by kernel_rfl) (.int .i64 32) (Quiet.pure (fun _ => by kernel_rfl)) ?_
    refine Sy.stepD 1 rfl (by kernel_rfl) (fun _ _ _ _ h => h) (by kernel_rfl) (.slice (some ⟨ga, oa, none⟩) 33 c) (Quiet.pure (fun _ => by kernel_rfl)) ?_
    refine Sy.stepD 2 rfl (by kernel_rfl) (fun _ _ _ _ h => h) (by kernel_rfl) (.int .i64 33) (Quiet.pure (fun _ => by kernel_rfl)) ?_
    refine Sy.stepD 3 rfl (by kernel_rfl) (fun _ _ _ _ h => h) (by kernel_rfl) (.bool false) (Quiet.pure (fun _ => by kernel_rfl)) ?_
    refine Sy.stepD 4 rfl (by kernel_rfl) (fun _ _ _ _ h => h) (by kernel_rfl) (.bool false) (Quiet.pure (fun _ => by kernel_rfl)) ?_
    refine Sy.stepD 5 rfl (by kernel_rfl) (fun _ _ _ _ h => h) (by kernel_rfl) (.int .i64 32) (Quiet.pure (fun _ => by kernel_rfl)) ?_
    refine Sy.stepD 6 rfl (by kernel_rfl) (fun _ _ _ _ h => h) (by kernel_rfl) (.pointer (some ⟨g37, 32, none⟩)) (Quiet.pure (fun _ => by kernel_rfl)) ?_
    refine Sy.stepD 7 rfl (by kernel_rfl) (fun _ _ _ _ h => h) (by kernel_rfl) (bv (b.getD 32 0)) (Quiet.cell 0 g37 32 45 5 (b.map bv).toArray _ _ rfl (by kernel_rfl) (by kernel_rfl) Try.underlying5 rfl _ (key_at b hn 32 (by decide))) ?_
    refine Sy.stepD 8 rfl (by kernel_rfl) (fun _ _ _ _ h => h) (by kernel_rfl) (.slice (some ⟨ga, oa, none⟩) 33 c) (Quiet.pure (fun _ => by kernel_rfl)) ?_
    refine Sy.stepD 9 rfl (by kernel_rfl) (fun _ _ _ _ h => h) (by kernel_rfl) (.int .i64 32) (Quiet.pure (fun _ => by kernel_rfl)) ?_
    refine Sy.stepD 10 rfl (by kernel_rfl) (fun _ _ _ _ h => h) (by kernel_rfl) (.pointer (some ⟨ga, oa + 32, none⟩)) (Quiet.pure (fun w => exec_index 44 _ _ ga (oa) 33 (c) 32 rfl (by kernel_rfl) (by kernel_rfl) (by kernel_rfl) (fun _ => by kernel_rfl) (by decide) w)) ?_
    refine Sy.stepD 11 rfl (by kernel_rfl) (fun _ _ _ _ h => h) (by kernel_rfl) (bv (b.getD 32 0)) (Quiet.thereOne ga (oa + 32) 5 _ _ rfl (by kernel_rfl) hsl.1 _ (src_one hsl 32 _ (one_at b hn 32 (by decide))) Try.underlying5 rfl) ?_
    refine Sy.stepD 12 rfl (by kernel_rfl) (fun _ _ _ _ h => h) (by kernel_rfl) (.bool false) (Quiet.pure (fun w => neq_u8_same w _ _ _ _ (b.getD 32 0) rfl rfl rfl)) ?_
    refine Sy.stepD 13 rfl (by kernel_rfl) (fun _ _ _ _ h => h) (by kernel_rfl) (.bool false) (Quiet.pure (fun _ => by kernel_rfl)) ?_
    refine Sy.doneD (by kernel_rfl) ?_
    refine Sy.then_ ?_
    refine Sy.cond_f (by kernel_rfl) (by kernel_rfl) ?_
    refine Sy.skip ?_
    refine Sy.in_ ?_
    refine Sy.then_ ?_
    refine Sy.region ?_
    refine Sy.step (by kernel_rfl) (.int .i64 33) (Quiet.pure (fun _ => by kernel_rfl)) ?_
    refine Sy.step (by kernel_rfl) (.int .i64 33) (Quiet.pure (fun _ => by kernel_rfl)) ?_
    refine Sy.nil ?_
    refine Sy.again ?_
    refine Sy.tidyR (G := [(1, .slice (some ⟨ga, oa, none⟩) 33 c), (12, .pointer (some ⟨g37, 0, none⟩)), (55, .int .i64 33)]) (M := [(g37, 45, (b.map bv).toArray)]) [true] (by kernel_rfl) (all_cons (by kernel_rfl) (all_cons (by kernel_rfl) (all_cons (by kernel_rfl) all_nil))) ?_
    refine Sy.round ?_
    refine Sy.seq ?_
    refine Sy.region ?_
    refine Sy.step (by kernel_rfl) (.bool false) (Quiet.pure (fun _ => by kernel_rfl)) ?_
    refine Sy.nil ?_
    refine Sy.then_ ?_
    refine Sy.seq ?_
    refine Sy.cond_f (by kernel_rfl) (by kernel_rfl) ?_
    refine Sy.exit ?_
    refine Sy.then_exit ?_
    refine Sy.then_exit ?_
    refine Sy.in_exit ?_
    refine Sy.then_ ?_
    refine Sy.seq ?_
    refine Sy.region ?_
    refine Sy.step (by kernel_rfl) (.slice (some ⟨ga, oa, none⟩) 33 c) (Quiet.pure (fun _ => by kernel_rfl)) ?_
    refine Sy.step (by kernel_rfl) (.int .i64 33) (Quiet.pure (fun _ => by kernel_rfl)) ?_
    refine Sy.step (by kernel_rfl) (.bool true) (Quiet.pure (fun _ => by kernel_rfl)) ?_
    refine Sy.step (by kernel_rfl) (.bool true) (Quiet.pure (fun _ => by kernel_rfl)) ?_
    refine Sy.nil ?_
    refine Sy.then_ ?_
    refine Sy.ret ?_
    exact Sy.ret1 (v := .bool true) rfl (.inl (show _ = _ by kernel_rfl))
end Go.Proofs.Ytlojidnlkflpnaa.Cu
