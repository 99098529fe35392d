/-
  Texts of ours, put together: SymC, SymE, ScSpec, NumB, ScLow, RefNum, RefMinus, RefFold, RefAdd, RefMul, RefPow, FeOwn, RefBytes, CrvC, FeB32, FeRead, RefSqrt, RootNum, CrvD, CrvP, CrvQ, EcW, CrvR, SymF, SymG, CrvS, CrvT.
-/
import Derived.Test.YtbofhoonlmikcaaDoorBS2
set_option linter.unusedVariables false
set_option linter.unusedSimpArgs false
section
namespace Go.Proofs.YtbofhoonlmikcaaDoor.Sy
open Go.RowKit Go.Proofs.YtbofhoonlmikcaaDoor

section
variable {P : Program} {w0 : Base} {n : Nat} {Q : Exit → Act → World → Prop} {F : Slots} {L : Blocks} {ops : Array Oper} {o : Oper} {l : List Oper} {ex : Nat → Bool} {fuel : Nat} {listed : Array Bool}
/-- an operation that gives v and writes into block g -/
def WritesV (P : Program) (w0 : Base) (F : Slots) (L : Blocks) (o : Oper) (g : Nat) (t : TypeId) (cs' : Array Value) (v : Value) : Prop :=
  ∀ w, St w0 w L → ∃ w', (execOp (evF F) o).run P w = .ok (.value v) w' ∧ w.grownBy w' (some g) ∧ Blk w' g t cs'
theorem writeVD (k : Nat) {oi : Oper} (hi0 : ops.toList[k]? = some oi) (hr : Region.ready .any ops listed = [k]) (hex : ex k = true) (hg : good ops n F oi = true) (i g : Nat) (t : TypeId) (cs cs' : Array Value) (v : Value) (hL : L[i]? = some (g, t, cs)) (hm : WritesV P w0 F L oi g t cs' v)
    (h : wpD P w0 n ops Q ex (putF F oi.dst v) (L.set i (g, t, cs')) fuel (listed.setIfInBounds k true)) : wpD P w0 n ops Q ex F L (fuel + 1) listed := fun a w ha hw =>
  wpAnyG_sole k hi0 hr (ha.wanted (good_spec hg).1) fun w1 h1 K hK => by
    obtain ⟨w', e1, e2, e3⟩ := hm w1 (hw.gr h1)
    unfold Oper.wp
    rw [good_exec hg ha, e1]
    exact hK _ _ (fun e => by rw [hex] at e; cases e) (h _ _ (ha.put (good_spec hg).2.2.1 _) ((hw.gr h1).set hL e2 e3))
theorem WritesV.copy (d s : Operand) (dT sT e : TypeId) (ho : o.op = .call { callee := .builtin .copy, args := #[d, s], argTypes := #[dT, sT] }) (hu : P.underlying dT = some (.slice e)) (hsz : (P.info? e).map (·.size) = some 1)
    (i g f dl dc : Nat) (t : TypeId) (cs cs' : Array Value) (hL : L[i]? = some (g, t, cs)) (hd : evF F d = .slice (some ⟨g, f, none⟩) dl dc)
    (j gx fx sl sc : Nat) (tx : TypeId) (cx : Array Value) (hLx : L[j]? = some (gx, tx, cx)) (hs : evF F s = .slice (some ⟨gx, fx, none⟩) sl sc)
    (news : List Value) (hnews : (cx.toList.drop fx).take (Nat.min sl dl) = news) (hn : news.length = Nat.min sl dl) (h1 : ∀ u ∈ news, u.oneCell' = true) (hfit : f + news.length ≤ cs.size) (hcs : setAll cs f news = cs') : WritesV P w0 F L o g t cs' (goInt news.length) := fun w hw => by
  have hb := hw.get hL
  have hbx := hw.get hLx
  have hth := hb.there f news.length hfit
  have hr := run_copy_cells (P := P) w dT sT o.type e g f dl dc ⟨gx, fx, none⟩ sl sc news hu hsz hn (fun q u hq => by
    rw [addr_off, hbx.cell]
    rw [← hnews] at hq
    have hlt : q < Nat.min sl dl := by
      have h := (List.getElem?_eq_some_iff.1 hq).1
      rw [List.length_take] at h
      exact Nat.lt_of_lt_of_le h (Nat.min_le_left _ _)
    rw [List.getElem?_take_of_lt hlt, List.getElem?_drop] at hq
    simpa using hq) (fun q hq => (hth q hq).1) (fun q hq => (hth q hq).2) h1
  refine ⟨_, ?_, only_setCells news f w (World.grownBy.refl w (some g)), hcs ▸ Blk.setCells news f w cs hb⟩
  unfold execOp
  simp only [ho, resolve, invoke, builtin, Sem.run_bind, Sem.run_pure, Result.andThen_ok, List.map_toArray, List.map_cons, List.map_nil, hs, hd, hr]
theorem all_one (l : List Value) (h : l.all (·.oneCell') = true) : ∀ u ∈ l, u.oneCell' = true := fun u hu => List.all_eq_true.1 h u hu
end
end Go.Proofs.YtbofhoonlmikcaaDoor.Sy

end
section
namespace Go.Proofs.YtbofhoonlmikcaaDoor.Sy
open Go.RowKit Go.Proofs.YtbofhoonlmikcaaDoor

/-! ## Rows of equal parts -/
theorem setAll_is : ∀ (vs : List Value) (o : Nat) (cs : Array Value), o + vs.length ≤ cs.size → setAll cs o vs = (cs.toList.take o ++ (vs ++ cs.toList.drop (o + vs.length))).toArray
  | [], o, cs, _ => by simp [setAll, List.take_append_drop]
  | v :: r, o, cs, h => by
    simp only [List.length_cons] at h
    rw [setAll, setAll_is r (o + 1) _ (by simp; omega)]
    congr 1
    have hlt : o < cs.toList.length := by simp; omega
    rw [Array.toList_setIfInBounds, List.take_set, List.take_add_one, List.drop_set_of_lt (by omega), List.getElem?_eq_getElem hlt, List.set_append_right _ _ (by simp; omega)]
    have e : o + 1 + r.length = o + (r.length + 1) := by omega
    simp [Nat.min_eq_left (Nat.le_of_lt (show o < cs.size by omega)), e]
/-- n parts, one behind the other -/
def flat (f : Nat → List Value) (n : Nat) : List Value := (List.range n).flatMap f
section
variable {s : Nat} {f : Nat → List Value}
theorem flat_succ (n : Nat) : flat f (n + 1) = flat f n ++ f n := by simp [flat, List.range_succ]
theorem flat_len (h : ∀ k, (f k).length = s) : ∀ n, (flat f n).length = n * s
  | 0 => by simp [flat]
  | n + 1 => by rw [flat_succ, List.length_append, flat_len h n, h, Nat.succ_mul]
theorem flat_add (k : Nat) : ∀ m, flat f (k + m) = flat f k ++ flat (fun j => f (k + j)) m
  | 0 => by simp [flat]
  | m + 1 => by rw [← Nat.add_assoc, flat_succ, flat_add k m, flat_succ, List.append_assoc]
theorem flat_split {n k : Nat} (hk : k < n) : flat f n = flat f k ++ (f k ++ flat (fun j => f (k + 1 + j)) (n - k - 1)) := by
  obtain ⟨m, rfl⟩ : ∃ m, n = k + 1 + m := ⟨n - k - 1, by omega⟩
  rw [flat_add, flat_succ, List.append_assoc, show k + 1 + m - k - 1 = m by omega]
theorem flat_congr {g : Nat → List Value} {n : Nat} (h : ∀ k, k < n → f k = g k) : flat f n = flat g n := by
  unfold flat
  rw [List.flatMap_def, List.flatMap_def]
  exact congrArg List.flatten (List.map_congr_left fun k hk => h k (List.mem_range.1 hk))
theorem flat_at (h : ∀ k, (f k).length = s) {n k o : Nat} (hk : k < n) (ho : o = k * s) : ((flat f n).drop o).take s = f k := by
  subst ho
  rw [flat_split hk, List.drop_append_of_le_length (by rw [flat_len h]; exact Nat.le_refl _), List.drop_eq_nil_of_le (by rw [flat_len h]; exact Nat.le_refl _), List.nil_append, List.take_append_of_le_length (by rw [h]; exact Nat.le_refl _), List.take_of_length_le (by rw [h]; exact Nat.le_refl _)]
/-- some of a part -/
theorem flat_in (h : ∀ k, (f k).length = s) {n k o e m : Nat} (hk : k < n) (ho : o = k * s + e) (hm : e + m ≤ s) : ((flat f n).drop o).take m = ((f k).drop e).take m := by
  subst ho
  rw [← flat_at h hk rfl, List.drop_take, List.drop_drop, List.take_take, Nat.min_eq_left (by omega)]
theorem flat_set (h : ∀ k, (f k).length = s) {v : List Value} (hv : v.length = s) {n k o : Nat} (hk : k < n) (ho : o = k * s) : setAll (flat f n).toArray o v = (flat (fun j => if j = k then v else f j) n).toArray := by
  subst ho
  have hl := flat_len h (f := f)
  have hks : k * s + s ≤ n * s := by rw [← Nat.succ_mul]; exact Nat.mul_le_mul_right s hk
  rw [setAll_is _ _ _ (by simp [hl, hv]; exact hks)]
  congr 1
  rw [flat_split hk, flat_split (f := fun j => if j = k then v else f j) hk]
  congr 1
  · show (flat f k ++ _).take (k * s) = _
    rw [List.take_append_of_le_length (by rw [hl]; exact Nat.le_refl _), List.take_of_length_le (by rw [hl]; exact Nat.le_refl _)]
    exact flat_congr fun j hj => by rw [if_neg (by omega)]
  · simp only [if_true]
    congr 1
    show (flat f k ++ (f k ++ _)).drop (k * s + v.length) = _
    rw [← List.append_assoc, List.drop_append_of_le_length (by rw [List.length_append, hl, h, hv]; exact Nat.le_refl _), List.drop_eq_nil_of_le (by rw [List.length_append, hl, h, hv]; exact Nat.le_refl _), List.nil_append]
    exact flat_congr fun j hj => by rw [if_neg (by omega)]
theorem flat_one (h : ∀ k, (f k).length = s) (n : Nat) (hf : ∀ k, ∀ u ∈ f k, u.oneCell' = true) : (flat f n).toArray.all (·.oneCell') = true := by
  rw [List.all_toArray, List.all_eq_true]
  intro u hu
  unfold flat at hu
  obtain ⟨k, _, hk⟩ := List.mem_flatMap.1 hu
  exact hf k u hk
/-- nothing but one part, over and over -/
theorem flat_const (c : List Value) (hc : c.length = s) (hs : 0 < s) (n : Nat) (z : Array Value) (hz : z.toList = c) : (flat (fun _ => c) n).toArray = madeCells z (n * s) := by
  have hzs : z.size = s := by rw [← Array.length_toList, hz, hc]
  apply Array.ext'
  unfold madeCells
  apply List.ext_getElem?
  intro i
  rw [Array.toList_map, Array.toList_range, List.getElem?_map]
  by_cases hi : i < n * s
  · have hk : i / s < n := Nat.div_lt_of_lt_mul (by rw [Nat.mul_comm]; exact hi)
    have h := flat_in (s := s) (f := fun _ => c) (fun _ => hc) (n := n) (k := i / s) (o := i) (e := i % s) (m := 1) hk (by rw [Nat.mul_comm]; exact (Nat.div_add_mod i s).symm) (Nat.mod_lt _ hs)
    have h2 := congrArg (·[0]?) h
    simp only [List.getElem?_take, List.getElem?_drop, Nat.zero_lt_one, if_true, Nat.add_zero] at h2
    rw [h2, List.getElem?_range hi]
    have hm : i % s < s := Nat.mod_lt _ hs
    simp only [Option.map_some, hzs]
    rw [← hz]
    simp [hzs, hm]
  · rw [List.getElem?_eq_none (by rw [flat_len (s := s) (fun _ => hc)]; omega), List.getElem?_eq_none (by simp; omega)]
    rfl
end

/-- A's parts up to k, z behind -/
def upto (k : Nat) (A : Nat → List Value) (z : List Value) (j : Nat) : List Value := if j < k then A j else z
section
variable {s n k : Nat} {A : Nat → List Value} {z : List Value}
theorem upto_len (hA : ∀ j, (A j).length = s) (hz : z.length = s) (k : Nat) : ∀ j, (upto k A z j).length = s := fun j => by
  unfold upto
  split
  · exact hA j
  · exact hz
theorem upto_lt {j : Nat} (h : j < k) : upto k A z j = A j := if_pos h
theorem upto_one (hA : ∀ j, ∀ u ∈ A j, u.oneCell' = true) (hz : ∀ u ∈ z, u.oneCell' = true) (k : Nat) : ∀ j, ∀ u ∈ upto k A z j, u.oneCell' = true := fun j u hu => by
  unfold upto at hu
  split at hu
  · exact hA j u hu
  · exact hz u hu
theorem upto_zero : (flat (fun _ => z) n).toArray = (flat (upto 0 A z) n).toArray := congrArg List.toArray (flat_congr fun j _ => by unfold upto; rw [if_neg (by omega)])
theorem upto_all : (flat (upto n A z) n).toArray = (flat A n).toArray := congrArg List.toArray (flat_congr fun j hj => upto_lt hj)
theorem upto_set (hA : ∀ j, (A j).length = s) (hz : z.length = s) {v : List Value} (hv : A k = v) (hk : k < n) {o : Nat} (ho : o = k * s) : setAll (flat (upto k A z) n).toArray o v = (flat (upto (k + 1) A z) n).toArray := by
  rw [flat_set (upto_len hA hz k) (by rw [← hv]; exact hA k) hk ho]
  refine congrArg List.toArray (flat_congr fun j _ => ?_)
  unfold upto
  by_cases e : j = k
  · subst e
    rw [if_pos rfl, if_pos (by omega), hv]
  · rw [if_neg e]
    by_cases h : j < k
    · rw [if_pos h, if_pos (by omega)]
    · rw [if_neg h, if_neg (by omega)]
theorem upto_set1 (hA : ∀ j, (A j).length = 1) {u v : Value} (hv : A k = [v]) (hk : k < n) : (flat (upto k A [u]) n).toArray.setIfInBounds k v = (flat (upto (k + 1) A [u]) n).toArray := by
  have h := upto_set (s := 1) (z := [u]) hA rfl hv hk (Nat.mul_one k).symm
  simpa only [setAll] using h
theorem flat_load {f : Nat → List Value} (h : ∀ j, (f j).length = s) (hk : k < n) {o : Nat} (ho : o = k * s) : Value.agg (((flat f n).toArray.toList.drop o).take s).toArray = .agg (f k).toArray := by
  rw [show (flat f n).toArray.toList = flat f n from rfl, flat_at h hk ho]
theorem flat_fit {f : Nat → List Value} (h : ∀ j, (f j).length = s) (hk : k < n) {o : Nat} (ho : o = k * s) : o + s ≤ (flat f n).toArray.size := by
  have hks : k * s + s ≤ n * s := by rw [← Nat.succ_mul]; exact Nat.mul_le_mul_right s hk
  rw [List.size_toArray, flat_len h]
  omega
end

section
variable {s n m : Nat} {f : Nat → List Value}
theorem flat_whole (h : ∀ j, (f j).length = s) (hm : n * s = m) : Value.agg (((flat f n).toArray.toList.drop 0).take m).toArray = .agg (flat f n).toArray := by
  rw [show (flat f n).toArray.toList = flat f n from rfl, List.drop_zero, List.take_of_length_le (by rw [flat_len h, hm]; exact Nat.le_refl _)]
theorem flat_wsize (h : ∀ j, (f j).length = s) (hm : n * s = m) : 0 + m ≤ (flat f n).toArray.size := by
  rw [List.size_toArray, flat_len h]; omega
theorem flat_info (h : ∀ j, (f j).length = s) {x : Option Nat} (hx : x = some (n * s)) : x = some (flat f n).toArray.size := by
  rw [hx, List.size_toArray, flat_len h]
theorem flat_over (h : ∀ j, (f j).length = s) (hm : n * s = m) {cs : Array Value} (hc : cs.size = m) : 0 + (flat f n).toArray.size ≤ cs.size := by
  rw [List.size_toArray, flat_len h]; omega
theorem flat_put (h : ∀ j, (f j).length = s) {cs : Array Value} (hc : cs.size = n * s) : setAll cs 0 (flat f n).toArray.toList = (flat f n).toArray := by
  have hl : (flat f n).toArray.toList.length = cs.size := by
    rw [hc]
    exact flat_len h n
  rw [setAll_is _ _ _ (by omega), List.take_zero, List.drop_eq_nil_of_le (by rw [Array.length_toList]; omega)]
  simp
theorem flat_lt1 (h : ∀ j, (f j).length = 1) {k o : Nat} (hk : k < n) (ho : o = k * 1) : o < (flat f n).toArray.size := by
  rw [List.size_toArray, flat_len h]; omega
end

section
variable {P : Program} {w0 : Base} {n : Nat} {Q : Exit → Act → World → Prop} {F : Slots} {L : Blocks} {ops : Array Oper} {o : Oper} {l : List Oper}

/-- a part of a block -/
theorem blk_range {w : World} {g : Nat} {t : TypeId} {cs : Array Value} (h : Blk w g t cs) {o : Nat} {vs : List Value} (e : (cs.toList.drop o).take vs.length = vs) : w.rangeAt g o vs := fun j v hj => by
  rw [h.cell]
  rw [← e] at hj
  have hlt : j < vs.length := by
    have h := (List.getElem?_eq_some_iff.1 hj).1
    rw [List.length_take] at h
    exact Nat.lt_of_lt_of_le h (Nat.min_le_left _ _)
  rw [List.getElem?_take_of_lt hlt, List.getElem?_drop] at hj
  simpa using hj
theorem range_left {w : World} {g o : Nat} {a b : List Value} (h : w.rangeAt g o (a ++ b)) : w.rangeAt g o a := fun j v hj => h j v (by rw [List.getElem?_append_left (List.getElem?_eq_some_iff.1 hj).1]; exact hj)
theorem range_right {w : World} {g o n : Nat} {a b : List Value} (h : w.rangeAt g o (a ++ b)) (hn : a.length = n) : w.rangeAt g (o + n) b := fun j v hj => by
  rw [Nat.add_assoc]
  refine h (n + j) v ?_
  rw [List.getElem?_append_right (by omega), show n + j - a.length = j by omega]
  exact hj
theorem range_flat {w : World} {g o n s k : Nat} {f : Nat → List Value} (h : w.rangeAt g o (flat f n)) (hs : ∀ j, (f j).length = s) (hk : k < n) : w.rangeAt g (o + k * s) (f k) := fun j v hj => by
  rw [Nat.add_assoc]
  refine h (k * s + j) v ?_
  have e := flat_at hs hk rfl
  rw [← e] at hj
  have hlt : j < s := by
    have h := (List.getElem?_eq_some_iff.1 hj).1
    rw [List.length_take] at h
    exact Nat.lt_of_lt_of_le h (Nat.min_le_left _ _)
  rw [List.getElem?_take_of_lt hlt, List.getElem?_drop] at hj
  exact hj

/-! ## Numbers that are not written out -/
theorem exec_int (op : BinOp) (t : TypeId) (x y : Operand) {yt : TypeId} (k : IntKind) {k' : IntKind} (a b : Int) (v : Value) (ho : o.op = .binOp op t x y yt) (hx : evF F x = .int k a) (hy : evF F y = .int k' b) (h : ∀ w, (binOp op t (.int k a) (.int k' b)).run P w = .ok v w) (w : World) :
    (execOp (evF F) o).run P w = .ok (.value v) w := by
  have h1 : (eqGuard op t x y (.int k a) (.int k' b)).run P w = .ok () w := by
    unfold eqGuard
    cases op <;> rfl
  unfold execOp
  simp only [ho, hx, hy, Sem.run_bind, h1, h w, Result.andThen_ok, Sem.run_pure]
theorem wrap_i64 {z : Int} (h0 : -9223372036854775808 ≤ z) (h1 : z < 9223372036854775808) : IntKind.i64.wrap z = z := by
  unfold IntKind.wrap; simp [IntKind.bits, IntKind.signed]; omega
theorem int_add (t : TypeId) (k : IntKind) (a b c : Int) (h : k.wrap (a + b) = c) (w : World) : (binOp .add t (.int k a) (.int k b)).run P w = .ok (.int k c) w := by simp [binOp, Op.intArith, h]
theorem int_sub (t : TypeId) (k : IntKind) (a b c : Int) (h : k.wrap (a - b) = c) (w : World) : (binOp .sub t (.int k a) (.int k b)).run P w = .ok (.int k c) w := by simp [binOp, Op.intArith, h]
theorem int_mul (t : TypeId) (k : IntKind) (a b c : Int) (h : k.wrap (a * b) = c) (w : World) : (binOp .mul t (.int k a) (.int k b)).run P w = .ok (.int k c) w := by simp [binOp, Op.intArith, h]
theorem int_and (t : TypeId) (k : IntKind) (a b c : Int) (h : k.wrap ((BitVec.ofInt k.bits a &&& BitVec.ofInt k.bits b).toNat : Int) = c) (w : World) : (binOp .and t (.int k a) (.int k b)).run P w = .ok (.int k c) w := by
  simp only [binOp, ne_eq, not_true_eq_false, if_false, Op.intBits, Sem.run_pure]
  rw [h]
theorem int_shr (t : TypeId) (k k' : IntKind) (a b c : Int) (hb : ¬ b < 0) (h : a.fdiv (2 ^ min b.toNat k.bits) = c) (w : World) : (binOp .shr t (.int k a) (.int k' b)).run P w = .ok (.int k c) w := by
  simp only [binOp, Op.shift, if_neg hb, Sem.run_pure, h]
theorem int_lss (t : TypeId) (k : IntKind) (a b : Int) (c : Bool) (h : decide (a < b) = c) (w : World) : (binOp .lss t (.int k a) (.int k b)).run P w = .ok (.bool c) w := by simp [binOp, Op.intCmp, ← h]
/-- an element of a slice -/
theorem exec_at (t e : TypeId) (x kx : Operand) (g f len cap k s : Nat) (ki : IntKind) (ho : o.op = .indexAddr t x kx) (hx : evF F x = .slice (some ⟨g, f, none⟩) len cap) (hkx : evF F kx = .int ki (k : Int)) (ht : P.underlying t = some (.slice e)) (hsz : ∀ w, (sizeOf e).run P w = .ok s w) (hk : k < len) (w : World) :
    (execOp (evF F) o).run P w = .ok (.value (.pointer (some ⟨g, f + k * s, none⟩))) w := by
  have h0 : (0 : Int) ≤ k := by omega
  have h1 : ((k : Int).toNat) = k := by omega
  unfold execOp
  simp [ho, hx, hkx, Instr.indexAt, asIntOf, run_underlying ht, hsz, h0, hk, addr_off, Result.andThen]
/-- .. of an array, by the array's address -/
theorem exec_atA (t e : TypeId) (x kx : Operand) (g f m k s : Nat) (ki : IntKind) (ho : o.op = .indexAddr t x kx) (hx : evF F x = .pointer (some ⟨g, f, none⟩)) (hkx : evF F kx = .int ki (k : Int)) (ht : P.underlying t = some (.array m e)) (hsz : ∀ w, (sizeOf e).run P w = .ok s w) (hk : k < m) (w : World) :
    (execOp (evF F) o).run P w = .ok (.value (.pointer (some ⟨g, f + k * s, none⟩))) w := by
  have h0 : (0 : Int) ≤ k := by omega
  unfold execOp
  simp [ho, hx, hkx, Instr.indexAt, asIntOf, run_underlying ht, hsz, h0, hk, addr_off, Result.andThen, Instr.sureAddr]
/-- a slice of a slice: from lo on -/
theorem exec_sl1 (t : TypeId) (x lx : Operand) (g f len cap lo s : Nat) (kl : IntKind) (ho : o.op = .slice t x (some lx) none none) (hx : evF F x = .slice (some ⟨g, f, none⟩) len cap) (hl : evF F lx = .int kl (lo : Int)) (ht : P.underlying t = some (.slice (P.elem t))) (hsz : ∀ w, (sizeOf (P.elem t)).run P w = .ok s w) (h1 : lo ≤ len) (h2 : lo < cap) (w : World) :
    (execOp (evF F) o).run P w = .ok (.value (.slice (some ⟨g, f + lo * s, none⟩) (len - lo) (cap - lo))) w := by
  have hne : ¬ cap = lo := by omega
  have e : (Instr.sliceAt t (.slice (some ⟨g, f, none⟩) len cap) (some (.int kl (lo : Int))) none none).run P w = .ok (.slice (some ⟨g, f + lo * s, none⟩) (len - lo) (cap - lo)) w := by
    rw [run_sliceAt_slice w t _ _ _ _ ht, run_slice_l w t (some ⟨g, f, none⟩) len cap ht kl lo (by omega) (by omega)]
    simp [hsz, sliced, hne, addr_off, Result.andThen]
  unfold execOp
  simp only [ho, hx, hl, Option.map_some, Option.map_none, e, Sem.run_bind, Sem.run_pure, Result.andThen_ok]
/-- .. from lo to hi, up to mx -/
theorem exec_sl3 (t : TypeId) (x lx hx' mx' : Operand) (g f len cap lo hi mx s : Nat) (kl kh km : IntKind) (ho : o.op = .slice t x (some lx) (some hx') (some mx')) (hx : evF F x = .slice (some ⟨g, f, none⟩) len cap) (hl : evF F lx = .int kl (lo : Int)) (hh : evF F hx' = .int kh (hi : Int)) (hm : evF F mx' = .int km (mx : Int)) (ht : P.underlying t = some (.slice (P.elem t))) (hsz : ∀ w, (sizeOf (P.elem t)).run P w = .ok s w)
    (h1 : lo ≤ hi) (h2 : hi ≤ mx) (h3 : mx ≤ cap) (h4 : lo < mx) (w : World) : (execOp (evF F) o).run P w = .ok (.value (.slice (some ⟨g, f + lo * s, none⟩) (hi - lo) (mx - lo))) w := by
  have hne : ¬ mx = lo := by omega
  have e : (Instr.sliceAt t (.slice (some ⟨g, f, none⟩) len cap) (some (.int kl (lo : Int))) (some (.int kh (hi : Int))) (some (.int km (mx : Int)))).run P w = .ok (.slice (some ⟨g, f + lo * s, none⟩) (hi - lo) (mx - lo)) w := by
    rw [run_sliceAt_slice w t _ _ _ _ ht, run_slice_lhm w t (some ⟨g, f, none⟩) len cap ht kl kh km lo hi mx (by omega) (by omega) (by omega) (by omega)]
    simp [hsz, sliced, hne, addr_off, Result.andThen]
  unfold execOp
  simp only [ho, hx, hl, hh, hm, Option.map_some, e, Sem.run_bind, Sem.run_pure, Result.andThen_ok]
/-- the lesser of two -/
theorem exec_min (x y : Operand) {ts : Array TypeId} (k : IntKind) (a b c : Nat) (ho : o.op = .call { callee := .builtin .min, args := #[x, y], argTypes := ts }) (hx : evF F x = .int k (a : Int)) (hy : evF F y = .int k (b : Int)) (h : min a b = c) (w : World) : (execOp (evF F) o).run P w = .ok (.value (.int k (c : Int))) w := by
  have e : (if (b : Int) < (a : Int) then (b : Int) else (a : Int)) = (c : Int) := by split <;> omega
  unfold execOp
  simp [ho, hx, hy, resolve, invoke, builtin, Builtin.min_, Builtin.min2, Sem.run_bind, Result.andThen]
  omega
/-- a cell of an array's value -/
theorem exec_idx (t e : TypeId) (x kx : Operand) (cs : Array Value) (m k : Nat) (ki : IntKind) (d : TypeDesc) (c : Value) (ho : o.op = .index t x kx) (hx : evF F x = .agg cs) (hkx : evF F kx = .int ki (k : Int)) (ht : P.underlying t = some (.array m e)) (he : P.underlying e = some d) (hd : d.isRow = false) (hsz : ∀ w, (sizeOf e).run P w = .ok 1 w) (hk : k < m) (hc : cs[k]? = some c) (w : World) :
    (execOp (evF F) o).run P w = .ok (.value c) w := by
  have h0 : (0 : Int) ≤ k := by omega
  have ha : (isAgg e).run P w = .ok false w := by
    cases d <;> first | (cases hd; done) | simp [isAgg, underlying, he]
  have pc : (part e cs ((k : Int).toNat * 1)).run P w = .ok c w := by
    simp [part, ha, hc, Result.andThen]
  unfold execOp
  simp only [ho, hx, hkx, Instr.index, asIntOf, Sem.run_bind, Sem.run_pure, Result.andThen_ok, run_underlying ht]
  rw [if_pos ⟨by omega, by omega⟩]
  simp only [Sem.run_bind, hsz, Result.andThen_ok, pc, Sem.run_pure]

/-! ## Loops by what is known at their heads -/
/-- .. where all that is known hangs on the round's number alone -/
def NextK (w0 : Base) (n N : Nat) (FF : Nat → Slots) (LL : Nat → Blocks) (k : Nat) : Act → World → Prop := fun a w => k < N ∧ Fr w0.ds a n (FF (k + 1)) ∧ St w0 w (LL (k + 1))
theorem loopK {c : Code} (N : Nat) (FF : Nat → Slots) (LL : Nat → Blocks) (m : List Bool) {M : Blocks} (hF : ∀ p ∈ FF 0, F.lookup p.1 = some p.2) (hL : sel L m = M) (hM : M = LL 0)
    (hr : ∀ k, k ≤ N → wpC P w0 n (Exit.then (NextK w0 n N FF LL k) Q) (FF k) (LL k) c) : wpC P w0 n Q F L (.loop c) :=
  loopI N (fun k a w => Fr w0.ds a n (FF k) ∧ St w0 w (LL k)) (fun _ _ ha hw => ⟨ha.all hF, hM ▸ hL ▸ hw.less (sel_sub L m)⟩)
    fun k hk a w ⟨ha, hw⟩ => hr k hk a w ha hw
theorem againK {N : Nat} {FF : Nat → Slots} {LL : Nat → Blocks} {k : Nat} {R : Exit → Act → World → Prop} (m : List Bool) {M : Blocks} (hk : k < N) (hF : ∀ p ∈ FF (k + 1), F.lookup p.1 = some p.2) (hL : sel L m = M) (hM : M = LL (k + 1)) :
    X w0 n (Exit.then (NextK w0 n N FF LL k) R) F L .normal := fun _ _ ha hw => ⟨hk, ha.all hF, hM ▸ hL ▸ hw.less (sel_sub L m)⟩
theorem bcons {x y : Nat × TypeId × Array Value} {l m : Blocks} (h : x = y) (k : l = m) : x :: l = y :: m := by rw [h, k]
theorem beq {g : Nat} {t : TypeId} {a b : Array Value} (h : a = b) : (g, t, a) = (g, t, b) := by rw [h]

/-! ## More operations -/
/-- a slice that is made -/
theorem Makes.slice (t e : TypeId) (i : TypeInfo) (z : Value) (s b : Nat) (x y : Operand) (kl kc : IntKind) (m : Nat) (c : List Value) (ho : o.op = .makeSlice t x y) (hx : evF F x = .int kl (m : Int)) (hy : evF F y = .int kc (m : Int)) (ht : P.underlying t = some (.slice e)) (hi : P.info? e = some i) (hz : i.zero = some z) (hs : i.size = s) (hs0 : 0 < s) (hb : i.bytes = b)
    (hc : z.cells.toList = c) (hcl : c.length = s) (hbytes : b * m ≤ 281474976710656) (h63 : m ≤ 9223372036854775807) : Makes P F o e (flat (fun _ => c) m).toArray (fun g => .slice (some ⟨g, 0, none⟩) m m) := fun w => by
  subst hs hb
  have hb : (i.bytes : Int) * (m : Int) ≤ 281474976710656 := by
    have h : ((i.bytes * m : Nat) : Int) ≤ 281474976710656 := by omega
    rwa [Int.natCast_mul] at h
  have hr := run_make (P := P) w t e i z ht hi hz kl kc m m (by omega) (Int.le_refl _) hb (by omega)
  simp only [Int.toNat_natCast] at hr
  unfold execOp
  simp only [ho, hx, hy, Sem.run_bind, Sem.run_pure, hr, Result.andThen_ok]
  rw [flat_const c hcl hs0 m z.cells hc]
end
end Go.Proofs.YtbofhoonlmikcaaDoor.Sy

end
section
namespace Go.Proofs.YtbofhoonlmikcaaDoor.Sc
open Go.RowKit

/-- the modulus -/
def pM : Nat := 115792089237316195423570985008687907852837564279074904382605163141518161494337
theorem pM_eq : pM = 115792089237316195423570985008687907852837564279074904382605163141518161494337 := rfl
theorem mod_lt (n : Nat) : n % pM < 115792089237316195423570985008687907853269984665640564039457584007913129639936 := by have := Nat.mod_lt n (show 0 < pM by decide); rw [pM_eq] at this ⊢; omega
theorem mod_lt_p (n : Nat) : n % pM < pM := Nat.mod_lt n (by decide)
def addP (x y : Nat) : Nat := (x + y) % pM
def negP (x : Nat) : Nat := (pM - x % pM) % pM
def mulP (x y : Nat) : Nat := x * y % pM
theorem addP_lt (x y : Nat) : addP x y < 115792089237316195423570985008687907853269984665640564039457584007913129639936 := mod_lt _
/-- a difference by a multiple of p does not count -/
theorem mod_of_mult {x z k : Nat} (h : z + 115792089237316195423570985008687907852837564279074904382605163141518161494337 * k = x) : z % pM = x % pM := by
  rw [← h, pM_eq, Nat.add_mul_mod_self_left]
end Go.Proofs.YtbofhoonlmikcaaDoor.Sc

end
section
namespace Go.Proofs.YtbofhoonlmikcaaDoor
open Go.RowKit Go.Lib

/-- byte number j of a number, the lowest is 0 -/
def byteN (z j : Nat) : UInt8 := UInt8.ofNat (z / 2 ^ (8 * j) % 256)
/-- the k lowest bytes, the highest first -/
def lowB (z : Nat) : Nat → List UInt8
  | 0 => []
  | k + 1 => byteN z k :: lowB z k
theorem lowB_length (z : Nat) : ∀ k, (lowB z k).length = k
  | 0 => rfl
  | k + 1 => by rw [lowB, List.length_cons, lowB_length z k]
def bytesS (z : Nat) : List UInt8 := lowB z 32
/-- what stands in the array behind k rounds -/
def partB (z k : Nat) : List UInt8 := List.replicate (32 - k) 0 ++ lowB z k
theorem partB_length (z k : Nat) (h : k ≤ 32) : (partB z k).length = 32 := by simp [partB, lowB_length]; omega
theorem partB_full (z : Nat) : partB z 32 = bytesS z := by simp [partB, bytesS]
theorem partB_set (z k : Nat) (h : k < 32) : ((partB z k).map bv).toArray.setIfInBounds (31 - k) (bv (byteN z k)) = ((partB z (k + 1)).map bv).toArray := by
  rw [List.setIfInBounds_toArray]
  congr 1
  rw [← List.map_set]
  congr 1
  unfold partB
  rw [List.set_append_left _ _ (by simp; omega)]
  obtain ⟨m, hm⟩ : ∃ m, 32 - k = m + 1 := ⟨31 - k, by omega⟩
  have h2 : 32 - (k + 1) = m := by omega
  have h3 : 31 - k = m := by omega
  rw [hm, h2, h3, List.replicate_succ', List.set_append_right _ _ (by simp)]
  simp [lowB]
theorem bytesS_length (z : Nat) : (bytesS z).length = 32 := lowB_length z 32
theorem bv_byteN (z j : Nat) : bv (byteN z j) = .int .u8 ((z / 2 ^ (8 * j) % 256 : Nat) : Int) := by
  unfold bv byteN
  congr 2
  rw [UInt8.toNat_ofNat']
  omega
theorem Blk.val {w : World} {a : Addr} {v v' : Value} {g : Nat} {t : TypeId} {cs : Array Value} (h : Blk (w.setCell a v) g t cs) (e : v = v') : Blk (w.setCell a v') g t cs := e ▸ h
theorem b32_info {l : List UInt8} (h : l.length = 32) : (Tryd.prog.info? 30).map (·.size) = some (l.map bv).toArray.size := by
  simp only [List.size_toArray, List.length_map, h]
  kernel_rfl
theorem b32_one (l : List UInt8) : (l.map bv).toArray.all (·.oneCell') = true := by simp [bv, Value.oneCell']

def valB (l : List UInt8) : Nat := l.foldl (fun a b => a * 256 + b.toNat) 0
theorem valB_snoc (l : List UInt8) (c : UInt8) : valB (l ++ [c]) = valB l * 256 + c.toNat := by simp [valB, List.foldl_append]
theorem valB_lt : ∀ (n : Nat) (l : List UInt8), l.length = n → valB l < 256 ^ n
  | 0, l, h => by
    obtain rfl : l = [] := List.length_eq_zero_iff.1 h
    simp [valB]
  | n + 1, l, h => by
    have hne : l ≠ [] := by intro e; rw [e] at h; cases h
    have e := List.dropLast_concat_getLast hne
    have ih := valB_lt n l.dropLast (by rw [List.length_dropLast]; omega)
    rw [← e, valB_snoc, Nat.pow_succ]
    have := (l.getLast hne).toNat_lt
    omega
theorem valB_append (l : List UInt8) : ∀ (n : Nat) (m : List UInt8), m.length = n → valB (l ++ m) = valB l * 256 ^ n + valB m
  | 0, m, h => by
    obtain rfl : m = [] := List.length_eq_zero_iff.1 h
    simp [valB]
  | n + 1, m, h => by
    have hne : m ≠ [] := by intro e; rw [e] at h; cases h
    have e := List.dropLast_concat_getLast hne
    have ih := valB_append l n m.dropLast (by rw [List.length_dropLast]; omega)
    rw [← e, ← List.append_assoc, valB_snoc, valB_snoc, ih, Nat.pow_succ, Nat.add_mul, Nat.mul_assoc]
    omega
/-- the word of eight bytes at 8 p, as far as k bytes have come -/
def wdB (l : List UInt8) (k p : Nat) : Nat := valB ((l.drop (8 * p)).take (min 8 (k - 8 * p)))
theorem wdB_zero (l : List UInt8) (p : Nat) : wdB l 0 p = 0 := by simp [wdB, valB]
theorem wdB_step (l : List UInt8) (k p : Nat) (c : UInt8) (h : l[k]? = some c) (hp : k / 8 = p) : wdB l (k + 1) p = wdB l k p * 256 + c.toNat := by
  unfold wdB
  rw [show min 8 (k + 1 - 8 * p) = (k - 8 * p) + 1 by omega, show min 8 (k - 8 * p) = k - 8 * p by omega, List.take_add_one, List.getElem?_drop, show 8 * p + (k - 8 * p) = k by omega, h]
  exact valB_snoc _ _
theorem wdB_same (l : List UInt8) (k p : Nat) (hp : k / 8 ≠ p) : wdB l (k + 1) p = wdB l k p := by
  unfold wdB
  rw [show min 8 (k + 1 - 8 * p) = min 8 (k - 8 * p) by omega]
theorem wdB_lt (l : List UInt8) (k p : Nat) (hp : k / 8 = p) : wdB l k p < 72057594037927936 := by
  unfold wdB
  have h := valB_lt _ ((l.drop (8 * p)).take (min 8 (k - 8 * p))) rfl
  refine Nat.lt_of_lt_of_le h ?_
  have : ((l.drop (8 * p)).take (min 8 (k - 8 * p))).length ≤ 7 := by rw [List.length_take]; omega
  exact Nat.pow_le_pow_right (by omega) this
theorem wdB_all (l : List UInt8) (h : l.length = 32) : valB l = wdB l 32 3 + 18446744073709551616 * wdB l 32 2 + 340282366920938463463374607431768211456 * wdB l 32 1 + 6277101735386680763835789423207666416102355444464034512896 * wdB l 32 0 := by
  have e : l = (l.take 8 ++ (l.drop 8).take 8) ++ ((l.drop 16).take 8 ++ (l.drop 24).take 8) := by
    conv => lhs; rw [← List.take_append_drop 16 l, ← List.take_append_drop 8 (l.take 16), ← List.take_append_drop 8 (l.drop 16)]
    congr 2
    · rw [List.take_take]; rfl
    · rw [List.drop_take]
    · rw [List.drop_drop, List.take_of_length_le (by simp; omega)]
  have w0 : wdB l 32 0 = valB (l.take 8) := rfl
  have w1 : wdB l 32 1 = valB ((l.drop 8).take 8) := rfl
  have w2 : wdB l 32 2 = valB ((l.drop 16).take 8) := rfl
  have w3 : wdB l 32 3 = valB ((l.drop 24).take 8) := rfl
  conv => lhs; rw [e]
  rw [valB_append _ 16 _ (by simp; omega), valB_append _ 8 _ (by simp; omega), valB_append _ 8 _ (by simp; omega), w0, w1, w2, w3]
  have p8 : (256 : Nat) ^ 8 = 18446744073709551616 := by decide
  have p16 : (256 : Nat) ^ 16 = 340282366920938463463374607431768211456 := by decide
  rw [p8, p16, Nat.add_mul, Nat.mul_assoc]
  omega
theorem wdB_lt8 (l : List UInt8) (k p : Nat) : wdB l k p < 18446744073709551616 := by
  unfold wdB
  have h := valB_lt _ ((l.drop (8 * p)).take (min 8 (k - 8 * p))) rfl
  refine Nat.lt_of_lt_of_le h ?_
  have : ((l.drop (8 * p)).take (min 8 (k - 8 * p))).length ≤ 8 := by rw [List.length_take]; omega
  exact Nat.pow_le_pow_right (by omega) this
theorem or_add (w c : Nat) (hw : w < 72057594037927936) (hc : c < 256) : bits .or .u64 ((w : Int) * 256) (c : Int) = ((w * 256 + c : Nat) : Int) := by
  have e : ((w : Int) * 256) = ((w * 256 : Nat) : Int) := by omega
  rw [e]
  have h : w * 256 ||| c = w * 256 + c := by
    have := Nat.two_pow_add_eq_or_of_lt (i := 8) (b := c) (by omega) w
    rw [Nat.mul_comm w 256]
    exact this.symm
  have hw2 : (BitVec.ofInt 64 ((w * 256 : Nat) : Int) ||| BitVec.ofInt 64 (c : Int)).toNat = w * 256 + c := by
    rw [BitVec.toNat_or]
    simp only [BitVec.ofInt_natCast, BitVec.toNat_ofNat]
    rw [Nat.mod_eq_of_lt (by omega), Nat.mod_eq_of_lt (by omega), h]
  show IntKind.u64.wrap ((BitVec.ofInt 64 ((w * 256 : Nat) : Int) ||| BitVec.ofInt 64 (c : Int)).toNat : Int) = _
  rw [hw2, IntKind.wrap_u64]
  omega
theorem run_index_b32 (W : World) (l : List UInt8) (k : Nat) (c : UInt8) (h : l[k]? = some c) (hk : k < 32) :
    (Instr.index 30 (.agg (l.map bv).toArray) (.int .i64 (k : Int))).run Tryd.prog W = .ok (bv c) W := by
  unfold Instr.index
  have hs : ∀ W, (sizeOf 5).run Tryd.prog W = .ok 1 W := fun W => by kernel_rfl
  have pc : (part 5 (l.map bv).toArray ((k : Int).toNat * 1)).run Tryd.prog W = .ok (bv c) W := by
    simp [part, isAgg, run_underlying Tryd.underlying5, h]
  simp only [asIntOf, Sem.run_bind, Sem.run_pure, Result.andThen_ok, run_underlying Tryd.underlying30]
  rw [if_pos ⟨by omega, by omega⟩]
  simp only [Sem.run_bind, hs, Result.andThen_ok, pc]

theorem p256 (k : Nat) : (2 : Nat) ^ (8 * k) = 256 ^ k := by rw [Nat.pow_mul]
theorem valB_lowB (z : Nat) : ∀ k, valB (lowB z k) = z % 256 ^ k
  | 0 => by simp [lowB, valB, Nat.mod_one]
  | k + 1 => by
    have h := valB_append [byteN z k] k (lowB z k) (lowB_length z k)
    rw [lowB]
    rw [List.singleton_append] at h
    rw [h, valB_lowB z k, Nat.mod_pow_succ]
    have e : valB [byteN z k] = z / 256 ^ k % 256 := by
      have : valB [byteN z k] = (byteN z k).toNat := by simp [valB]
      rw [this, byteN, UInt8.toNat_ofNat', p256]
      omega
    rw [e, Nat.mul_comm]
    omega
theorem valB_bytesS (z : Nat) (hz : z < 115792089237316195423570985008687907853269984665640564039457584007913129639936) : valB (bytesS z) = z := by
  rw [bytesS, valB_lowB]
  have : (256 : Nat) ^ 32 = 115792089237316195423570985008687907853269984665640564039457584007913129639936 := by decide
  rw [this, Nat.mod_eq_of_lt hz]
theorem valB_lt32 (l : List UInt8) (h : l.length = 32) : valB l < 115792089237316195423570985008687907853269984665640564039457584007913129639936 := by
  have := valB_lt 32 l h
  have e : (256 : Nat) ^ 32 = 115792089237316195423570985008687907853269984665640564039457584007913129639936 := by decide
  omega
end Go.Proofs.YtbofhoonlmikcaaDoor

end
section
namespace Go.Proofs.YtbofhoonlmikcaaDoor.Sc
open Go.RowKit Go.Lib

theorem order_any (w : World) : Calls Tryd.prog 35 #[] w fun e w' => e = .returned (fv 115792089237316195423570985008687907852837564279074904382605163141518161494337) ∧ Below w.heap.size w w' := by
  go_enter Tryd.func35, Tryd.ntmps35
  go_wp2
  exact bodyPost_ret (results_cell_row rfl _ _ w.heap.size _ _ (0, 0) _ rfl (heap_alloc_new w _) Tryd.underlying24 rfl (by kernel_rfl)) rfl ⟨rfl, (Below.refl _ _).alloc (Nat.le_refl _) _⟩
set_option maxHeartbeats 8000000 in
set_option maxRecDepth 100000 in
theorem minus_any (w : World) (x y : Nat) (hx : x < 115792089237316195423570985008687907853269984665640564039457584007913129639936) (hy : y < 115792089237316195423570985008687907853269984665640564039457584007913129639936) : Calls Tryd.prog 34 #[fv x, fv y] w fun e w' => (∃ s k : Nat, s < 115792089237316195423570985008687907853269984665640564039457584007913129639936 ∧ k ≤ 1 ∧ s + y = x + 115792089237316195423570985008687907853269984665640564039457584007913129639936 * k ∧ e = .returned (.tuple #[fv s, .int .u64 (k : Int)])) ∧ Below w.heap.size w w' := by
  obtain ⟨x0, x1, x2, x3, a0, a1, a2, a3, ex, fx⟩ := words_of x hx
  obtain ⟨y0, y1, y2, y3, b0, b1, b2, b3, ey, fy⟩ := words_of y hy
  rw [fx, fy]
  obtain ⟨s0, c0, d0, k0, e0, r0⟩ := sub0_ex x0 y0 a0 b0
  obtain ⟨s1, c1, d1, k1, e1, r1⟩ := subc_ex x1 y1 c0 a1 b1 k0
  obtain ⟨s2, c2, d2, k2, e2, r2⟩ := subc_ex x2 y2 c1 a2 b2 k1
  obtain ⟨s3, c3, d3, k3, e3, r3⟩ := subc_ex x3 y3 c2 a3 b3 k2
  have fin : s0 + 18446744073709551616 * s1 + 340282366920938463463374607431768211456 * s2 + 6277101735386680763835789423207666416102355444464034512896 * s3 + y = x + 115792089237316195423570985008687907853269984665640564039457584007913129639936 * c3 := by omega
  have hs := Lib.hid (fv_mk s0 s1 s2 s3 d0 d1 d2 d3)
  have hlt := Lib.hid (fv_lt s0 s1 s2 s3 d0 d1 d2 d3)
  have HF := Lib.hid fin
  have HK := Lib.hid k3
  clear ex ey fx fy e0 e1 e2 e3 a0 a1 a2 a3 b0 b1 b2 b3 d0 d1 d2 d3 k0 k1 k2 k3 fin hx hy
  go_enter Tryd.func34, Tryd.ntmps34
  go_wp2_with fail
  go_loopw [5, 7] (fun bo i wr => Below w.heap.size w wr ∧ Blk wr w.heap.size 24 #[.int .u64 (x0 : Int), .int .u64 (x1 : Int), .int .u64 (x2 : Int), .int .u64 (x3 : Int)] ∧ Blk wr (w.heap.size + 1) 24 #[.int .u64 (y0 : Int), .int .u64 (y1 : Int), .int .u64 (y2 : Int), .int .u64 (y3 : Int)] ∧ Hid ((i = .int .i64 0 ∧ bo = .int .u64 0 ∧ Blk wr (w.heap.size + 2) 24 #[.int .u64 0, .int .u64 0, .int .u64 0, .int .u64 0]) ∨ (i = .int .i64 1 ∧ bo = .int .u64 (c0 : Int) ∧ Blk wr (w.heap.size + 2) 24 #[.int .u64 (s0 : Int), .int .u64 0, .int .u64 0, .int .u64 0]) ∨ (i = .int .i64 2 ∧ bo = .int .u64 (c1 : Int) ∧ Blk wr (w.heap.size + 2) 24 #[.int .u64 (s0 : Int), .int .u64 (s1 : Int), .int .u64 0, .int .u64 0]) ∨ (i = .int .i64 3 ∧ bo = .int .u64 (c2 : Int) ∧ Blk wr (w.heap.size + 2) 24 #[.int .u64 (s0 : Int), .int .u64 (s1 : Int), .int .u64 (s2 : Int), .int .u64 0]) ∨ (i = .int .i64 4 ∧ bo = .int .u64 (c3 : Int) ∧ Blk wr (w.heap.size + 2) 24 #[.int .u64 (s0 : Int), .int .u64 (s1 : Int), .int .u64 (s2 : Int), .int .u64 (s3 : Int)]))) (fun _ i _ => 4 - (intOf i).toNat)
  case atStart => exact ⟨below_alloc3 w _ _ _, ((Blk.new w _ _).alloc _).alloc _, (blk_new2 w _ _ _).alloc _, Lib.hid (.inl ⟨rfl, rfl, blk_new3 w _ _ _ _⟩)⟩
  case round =>
    obtain ⟨hb, BX, BY, HI⟩ := hrel
    have lX := BX.lt
    have lY := BY.lt
    rcases HI.out with ⟨rfl, rfl, BW⟩ | ⟨rfl, rfl, BW⟩ | ⟨rfl, rfl, BW⟩ | ⟨rfl, rfl, BW⟩ | ⟨rfl, rfl, BW⟩
    · clear HI
      have px : wr.cell? ⟨w.heap.size, 0, none⟩ = some (.int .u64 (x0 : Int)) := BX.cell 0
      have py : wr.cell? ⟨w.heap.size + 1, 0, none⟩ = some (.int .u64 (y0 : Int)) := BY.cell 0
      go_wp2
      refine wp_region_G (fun j => j == 13) (by kernel_rfl) ?_
      try simp only [Act.put]
      refine wpAnyG_take 0 rfl (by kernel_rfl) (fun _ _ _ h => h) (YieldsG.pure (by rfl) (fun w9 _ => by go_simp; try with_reducible rfl)) ?_
      try simp only [Act.put, List.setIfInBounds_toArray, List.set_cons_zero, List.set_cons_succ]
      refine wpAnyG_take 1 rfl (by kernel_rfl) (fun _ _ _ h => h) (YieldsG.pure (by rfl) (fun w9 _ => by go_simp; try with_reducible rfl)) ?_
      try simp only [Act.put, List.setIfInBounds_toArray, List.set_cons_zero, List.set_cons_succ]
      refine wpAnyG_take 2 rfl (by kernel_rfl) (fun _ _ _ h => h) (YieldsG.pure (by rfl) (fun w9 _ => by go_simp; try with_reducible rfl)) ?_
      try simp only [Act.put, List.setIfInBounds_toArray, List.set_cons_zero, List.set_cons_succ]
      refine wpAnyG_take 3 rfl (by kernel_rfl) (fun _ _ _ h => h) (YieldsG.pure (v := .int .u64 (x0 : Int)) (by rfl) (fun w9 h9 => by have hz := (Below.cell (p := ⟨w.heap.size, 0, none⟩) h9 lX).trans px; go_simp; first | done | simp [hz])) ?_
      try simp only [Act.put, List.setIfInBounds_toArray, List.set_cons_zero, List.set_cons_succ]
      refine wpAnyG_take 4 rfl (by kernel_rfl) (fun _ _ _ h => h) (YieldsG.pure (by rfl) (fun w9 _ => by go_simp; try with_reducible rfl)) ?_
      try simp only [Act.put, List.setIfInBounds_toArray, List.set_cons_zero, List.set_cons_succ]
      refine wpAnyG_take 5 rfl (by kernel_rfl) (fun _ _ _ h => h) (YieldsG.pure (by rfl) (fun w9 _ => by go_simp; try with_reducible rfl)) ?_
      try simp only [Act.put, List.setIfInBounds_toArray, List.set_cons_zero, List.set_cons_succ]
      refine wpAnyG_take 6 rfl (by kernel_rfl) (fun _ _ _ h => h) (YieldsG.pure (v := .int .u64 (y0 : Int)) (by rfl) (fun w9 h9 => by have hz := (Below.cell (p := ⟨w.heap.size + 1, 0, none⟩) h9 lY).trans py; go_simp; first | done | simp [hz])) ?_
      try simp only [Act.put, List.setIfInBounds_toArray, List.set_cons_zero, List.set_cons_succ]
      refine wpAnyG_take 7 rfl (by kernel_rfl) (fun _ _ _ h => h) (YieldsG.pure (by rfl) (fun w9 _ => by go_simp; try with_reducible rfl)) ?_
      try simp only [Act.put, List.setIfInBounds_toArray, List.set_cons_zero, List.set_cons_succ]
      refine wpAnyG_take 8 rfl (by kernel_rfl) (fun _ _ _ h => h) (YieldsG.pure (v := .tuple #[.int .u64 (s0 : Int), .int .u64 (c0 : Int)]) (by rfl) (fun w9 h9 => by go_simp)) ?_
      try simp only [Act.put, List.setIfInBounds_toArray, List.set_cons_zero, List.set_cons_succ]
      refine wpAnyG_take 9 rfl (by kernel_rfl) (fun _ _ _ h => h) (YieldsG.pure (by rfl) (fun w9 _ => by go_simp; try with_reducible rfl)) ?_
      try simp only [Act.put, List.setIfInBounds_toArray, List.set_cons_zero, List.set_cons_succ]
      refine wpAnyG_take 10 rfl (by kernel_rfl) (fun _ _ _ h => h) (YieldsG.pure (by rfl) (fun w9 _ => by go_simp; try with_reducible rfl)) ?_
      try simp only [Act.put, List.setIfInBounds_toArray, List.set_cons_zero, List.set_cons_succ]
      refine wpAnyG_takeA 11 rfl (by kernel_rfl) (fun _ _ _ h => h) (fun _ => YieldsG.pure (by rfl) (fun w9 _ => by go_simp; try with_reducible rfl)) ?_
      try simp only [Act.put, List.setIfInBounds_toArray, List.set_cons_zero, List.set_cons_succ]
      refine wpAnyG_take 12 rfl (by kernel_rfl) (fun _ _ _ h => h) (YieldsG.pure (by rfl) (fun w9 _ => by go_simp; try with_reducible rfl)) ?_
      try simp only [Act.put, List.setIfInBounds_toArray, List.set_cons_zero, List.set_cons_succ]
      refine wpAnyG_sole 13 rfl (by kernel_rfl) (by rfl) (fun u hu K hK => ?_)
      have BX := Gr.blk hu BX
      have BY := Gr.blk hu BY
      have BW := Gr.blk hu BW
      have hb := Below.gr hb hu
      have pc : u.cell? ⟨w.heap.size + 2, 0, none⟩ = some (.int .u64 0) := BW.cell 0
      have pf := BW.frozen 0
      clear hu px py
      go_simp
      refine hK _ _ (fun e => by cases e) ?_
      clear hK K
      have hb := hb.setCell (p := ⟨w.heap.size + 2, 0, none⟩) (by show w.heap.size ≤ w.heap.size + 2; omega) (.int .u64 (s0 : Int))
      have BX := BX.far (p := ⟨w.heap.size + 2, 0, none⟩) (by show w.heap.size ≠ w.heap.size + 2; omega) (.int .u64 (s0 : Int))
      have BY := BY.far (p := ⟨w.heap.size + 2, 0, none⟩) (by show w.heap.size + 1 ≠ w.heap.size + 2; omega) (.int .u64 (s0 : Int))
      have BW := BW.set_ 0 (.int .u64 (s0 : Int))
      refine wpAnyG_takeA 14 rfl (by kernel_rfl) (fun _ _ _ h => h) (fun _ => YieldsG.pure (by rfl) (fun w9 _ => by go_simp; try with_reducible rfl)) ?_
      try simp only [Act.put, List.setIfInBounds_toArray, List.set_cons_zero, List.set_cons_succ]
      refine wpAnyG_done (by kernel_rfl) (fun v hv => ?_)
      have hb := Below.gr hb hv
      have BX := Gr.blk hv BX
      have BY := Gr.blk hv BY
      have BW := Gr.blk hv BW
      clear hv pc pf
      go_wp2
      refine ⟨⟨hb, BX, BY, Lib.hid (.inr (.inl (⟨rfl, rfl, BW⟩)))⟩, by decide⟩
    · clear HI
      have px : wr.cell? ⟨w.heap.size, 1, none⟩ = some (.int .u64 (x1 : Int)) := BX.cell 1
      have py : wr.cell? ⟨w.heap.size + 1, 1, none⟩ = some (.int .u64 (y1 : Int)) := BY.cell 1
      go_wp2
      refine wp_region_G (fun j => j == 13) (by kernel_rfl) ?_
      try simp only [Act.put]
      refine wpAnyG_take 0 rfl (by kernel_rfl) (fun _ _ _ h => h) (YieldsG.pure (by rfl) (fun w9 _ => by go_simp; try with_reducible rfl)) ?_
      try simp only [Act.put, List.setIfInBounds_toArray, List.set_cons_zero, List.set_cons_succ]
      refine wpAnyG_take 1 rfl (by kernel_rfl) (fun _ _ _ h => h) (YieldsG.pure (by rfl) (fun w9 _ => by go_simp; try with_reducible rfl)) ?_
      try simp only [Act.put, List.setIfInBounds_toArray, List.set_cons_zero, List.set_cons_succ]
      refine wpAnyG_take 2 rfl (by kernel_rfl) (fun _ _ _ h => h) (YieldsG.pure (by rfl) (fun w9 _ => by go_simp; try with_reducible rfl)) ?_
      try simp only [Act.put, List.setIfInBounds_toArray, List.set_cons_zero, List.set_cons_succ]
      refine wpAnyG_take 3 rfl (by kernel_rfl) (fun _ _ _ h => h) (YieldsG.pure (v := .int .u64 (x1 : Int)) (by rfl) (fun w9 h9 => by have hz := (Below.cell (p := ⟨w.heap.size, 1, none⟩) h9 lX).trans px; go_simp; first | done | simp [hz])) ?_
      try simp only [Act.put, List.setIfInBounds_toArray, List.set_cons_zero, List.set_cons_succ]
      refine wpAnyG_take 4 rfl (by kernel_rfl) (fun _ _ _ h => h) (YieldsG.pure (by rfl) (fun w9 _ => by go_simp; try with_reducible rfl)) ?_
      try simp only [Act.put, List.setIfInBounds_toArray, List.set_cons_zero, List.set_cons_succ]
      refine wpAnyG_take 5 rfl (by kernel_rfl) (fun _ _ _ h => h) (YieldsG.pure (by rfl) (fun w9 _ => by go_simp; try with_reducible rfl)) ?_
      try simp only [Act.put, List.setIfInBounds_toArray, List.set_cons_zero, List.set_cons_succ]
      refine wpAnyG_take 6 rfl (by kernel_rfl) (fun _ _ _ h => h) (YieldsG.pure (v := .int .u64 (y1 : Int)) (by rfl) (fun w9 h9 => by have hz := (Below.cell (p := ⟨w.heap.size + 1, 1, none⟩) h9 lY).trans py; go_simp; first | done | simp [hz])) ?_
      try simp only [Act.put, List.setIfInBounds_toArray, List.set_cons_zero, List.set_cons_succ]
      refine wpAnyG_take 7 rfl (by kernel_rfl) (fun _ _ _ h => h) (YieldsG.pure (by rfl) (fun w9 _ => by go_simp; try with_reducible rfl)) ?_
      try simp only [Act.put, List.setIfInBounds_toArray, List.set_cons_zero, List.set_cons_succ]
      refine wpAnyG_take 8 rfl (by kernel_rfl) (fun _ _ _ h => h) (YieldsG.pure (v := .tuple #[.int .u64 (s1 : Int), .int .u64 (c1 : Int)]) (by rfl) (fun w9 h9 => by go_simp)) ?_
      try simp only [Act.put, List.setIfInBounds_toArray, List.set_cons_zero, List.set_cons_succ]
      refine wpAnyG_take 9 rfl (by kernel_rfl) (fun _ _ _ h => h) (YieldsG.pure (by rfl) (fun w9 _ => by go_simp; try with_reducible rfl)) ?_
      try simp only [Act.put, List.setIfInBounds_toArray, List.set_cons_zero, List.set_cons_succ]
      refine wpAnyG_take 10 rfl (by kernel_rfl) (fun _ _ _ h => h) (YieldsG.pure (by rfl) (fun w9 _ => by go_simp; try with_reducible rfl)) ?_
      try simp only [Act.put, List.setIfInBounds_toArray, List.set_cons_zero, List.set_cons_succ]
      refine wpAnyG_takeA 11 rfl (by kernel_rfl) (fun _ _ _ h => h) (fun _ => YieldsG.pure (by rfl) (fun w9 _ => by go_simp; try with_reducible rfl)) ?_
      try simp only [Act.put, List.setIfInBounds_toArray, List.set_cons_zero, List.set_cons_succ]
      refine wpAnyG_take 12 rfl (by kernel_rfl) (fun _ _ _ h => h) (YieldsG.pure (by rfl) (fun w9 _ => by go_simp; try with_reducible rfl)) ?_
      try simp only [Act.put, List.setIfInBounds_toArray, List.set_cons_zero, List.set_cons_succ]
      refine wpAnyG_sole 13 rfl (by kernel_rfl) (by rfl) (fun u hu K hK => ?_)
      have BX := Gr.blk hu BX
      have BY := Gr.blk hu BY
      have BW := Gr.blk hu BW
      have hb := Below.gr hb hu
      have pc : u.cell? ⟨w.heap.size + 2, 1, none⟩ = some (.int .u64 0) := BW.cell 1
      have pf := BW.frozen 1
      clear hu px py
      go_simp
      refine hK _ _ (fun e => by cases e) ?_
      clear hK K
      have hb := hb.setCell (p := ⟨w.heap.size + 2, 1, none⟩) (by show w.heap.size ≤ w.heap.size + 2; omega) (.int .u64 (s1 : Int))
      have BX := BX.far (p := ⟨w.heap.size + 2, 1, none⟩) (by show w.heap.size ≠ w.heap.size + 2; omega) (.int .u64 (s1 : Int))
      have BY := BY.far (p := ⟨w.heap.size + 2, 1, none⟩) (by show w.heap.size + 1 ≠ w.heap.size + 2; omega) (.int .u64 (s1 : Int))
      have BW := BW.set_ 1 (.int .u64 (s1 : Int))
      refine wpAnyG_takeA 14 rfl (by kernel_rfl) (fun _ _ _ h => h) (fun _ => YieldsG.pure (by rfl) (fun w9 _ => by go_simp; try with_reducible rfl)) ?_
      try simp only [Act.put, List.setIfInBounds_toArray, List.set_cons_zero, List.set_cons_succ]
      refine wpAnyG_done (by kernel_rfl) (fun v hv => ?_)
      have hb := Below.gr hb hv
      have BX := Gr.blk hv BX
      have BY := Gr.blk hv BY
      have BW := Gr.blk hv BW
      clear hv pc pf
      go_wp2
      refine ⟨⟨hb, BX, BY, Lib.hid (.inr (.inr (.inl (⟨rfl, rfl, BW⟩))))⟩, by decide⟩
    · clear HI
      have px : wr.cell? ⟨w.heap.size, 2, none⟩ = some (.int .u64 (x2 : Int)) := BX.cell 2
      have py : wr.cell? ⟨w.heap.size + 1, 2, none⟩ = some (.int .u64 (y2 : Int)) := BY.cell 2
      go_wp2
      refine wp_region_G (fun j => j == 13) (by kernel_rfl) ?_
      try simp only [Act.put]
      refine wpAnyG_take 0 rfl (by kernel_rfl) (fun _ _ _ h => h) (YieldsG.pure (by rfl) (fun w9 _ => by go_simp; try with_reducible rfl)) ?_
      try simp only [Act.put, List.setIfInBounds_toArray, List.set_cons_zero, List.set_cons_succ]
      refine wpAnyG_take 1 rfl (by kernel_rfl) (fun _ _ _ h => h) (YieldsG.pure (by rfl) (fun w9 _ => by go_simp; try with_reducible rfl)) ?_
      try simp only [Act.put, List.setIfInBounds_toArray, List.set_cons_zero, List.set_cons_succ]
      refine wpAnyG_take 2 rfl (by kernel_rfl) (fun _ _ _ h => h) (YieldsG.pure (by rfl) (fun w9 _ => by go_simp; try with_reducible rfl)) ?_
      try simp only [Act.put, List.setIfInBounds_toArray, List.set_cons_zero, List.set_cons_succ]
      refine wpAnyG_take 3 rfl (by kernel_rfl) (fun _ _ _ h => h) (YieldsG.pure (v := .int .u64 (x2 : Int)) (by rfl) (fun w9 h9 => by have hz := (Below.cell (p := ⟨w.heap.size, 2, none⟩) h9 lX).trans px; go_simp; first | done | simp [hz])) ?_
      try simp only [Act.put, List.setIfInBounds_toArray, List.set_cons_zero, List.set_cons_succ]
      refine wpAnyG_take 4 rfl (by kernel_rfl) (fun _ _ _ h => h) (YieldsG.pure (by rfl) (fun w9 _ => by go_simp; try with_reducible rfl)) ?_
      try simp only [Act.put, List.setIfInBounds_toArray, List.set_cons_zero, List.set_cons_succ]
      refine wpAnyG_take 5 rfl (by kernel_rfl) (fun _ _ _ h => h) (YieldsG.pure (by rfl) (fun w9 _ => by go_simp; try with_reducible rfl)) ?_
      try simp only [Act.put, List.setIfInBounds_toArray, List.set_cons_zero, List.set_cons_succ]
      refine wpAnyG_take 6 rfl (by kernel_rfl) (fun _ _ _ h => h) (YieldsG.pure (v := .int .u64 (y2 : Int)) (by rfl) (fun w9 h9 => by have hz := (Below.cell (p := ⟨w.heap.size + 1, 2, none⟩) h9 lY).trans py; go_simp; first | done | simp [hz])) ?_
      try simp only [Act.put, List.setIfInBounds_toArray, List.set_cons_zero, List.set_cons_succ]
      refine wpAnyG_take 7 rfl (by kernel_rfl) (fun _ _ _ h => h) (YieldsG.pure (by rfl) (fun w9 _ => by go_simp; try with_reducible rfl)) ?_
      try simp only [Act.put, List.setIfInBounds_toArray, List.set_cons_zero, List.set_cons_succ]
      refine wpAnyG_take 8 rfl (by kernel_rfl) (fun _ _ _ h => h) (YieldsG.pure (v := .tuple #[.int .u64 (s2 : Int), .int .u64 (c2 : Int)]) (by rfl) (fun w9 h9 => by go_simp)) ?_
      try simp only [Act.put, List.setIfInBounds_toArray, List.set_cons_zero, List.set_cons_succ]
      refine wpAnyG_take 9 rfl (by kernel_rfl) (fun _ _ _ h => h) (YieldsG.pure (by rfl) (fun w9 _ => by go_simp; try with_reducible rfl)) ?_
      try simp only [Act.put, List.setIfInBounds_toArray, List.set_cons_zero, List.set_cons_succ]
      refine wpAnyG_take 10 rfl (by kernel_rfl) (fun _ _ _ h => h) (YieldsG.pure (by rfl) (fun w9 _ => by go_simp; try with_reducible rfl)) ?_
      try simp only [Act.put, List.setIfInBounds_toArray, List.set_cons_zero, List.set_cons_succ]
      refine wpAnyG_takeA 11 rfl (by kernel_rfl) (fun _ _ _ h => h) (fun _ => YieldsG.pure (by rfl) (fun w9 _ => by go_simp; try with_reducible rfl)) ?_
      try simp only [Act.put, List.setIfInBounds_toArray, List.set_cons_zero, List.set_cons_succ]
      refine wpAnyG_take 12 rfl (by kernel_rfl) (fun _ _ _ h => h) (YieldsG.pure (by rfl) (fun w9 _ => by go_simp; try with_reducible rfl)) ?_
      try simp only [Act.put, List.setIfInBounds_toArray, List.set_cons_zero, List.set_cons_succ]
      refine wpAnyG_sole 13 rfl (by kernel_rfl) (by rfl) (fun u hu K hK => ?_)
      have BX := Gr.blk hu BX
      have BY := Gr.blk hu BY
      have BW := Gr.blk hu BW
      have hb := Below.gr hb hu
      have pc : u.cell? ⟨w.heap.size + 2, 2, none⟩ = some (.int .u64 0) := BW.cell 2
      have pf := BW.frozen 2
      clear hu px py
      go_simp
      refine hK _ _ (fun e => by cases e) ?_
      clear hK K
      have hb := hb.setCell (p := ⟨w.heap.size + 2, 2, none⟩) (by show w.heap.size ≤ w.heap.size + 2; omega) (.int .u64 (s2 : Int))
      have BX := BX.far (p := ⟨w.heap.size + 2, 2, none⟩) (by show w.heap.size ≠ w.heap.size + 2; omega) (.int .u64 (s2 : Int))
      have BY := BY.far (p := ⟨w.heap.size + 2, 2, none⟩) (by show w.heap.size + 1 ≠ w.heap.size + 2; omega) (.int .u64 (s2 : Int))
      have BW := BW.set_ 2 (.int .u64 (s2 : Int))
      refine wpAnyG_takeA 14 rfl (by kernel_rfl) (fun _ _ _ h => h) (fun _ => YieldsG.pure (by rfl) (fun w9 _ => by go_simp; try with_reducible rfl)) ?_
      try simp only [Act.put, List.setIfInBounds_toArray, List.set_cons_zero, List.set_cons_succ]
      refine wpAnyG_done (by kernel_rfl) (fun v hv => ?_)
      have hb := Below.gr hb hv
      have BX := Gr.blk hv BX
      have BY := Gr.blk hv BY
      have BW := Gr.blk hv BW
      clear hv pc pf
      go_wp2
      refine ⟨⟨hb, BX, BY, Lib.hid (.inr (.inr (.inr (.inl (⟨rfl, rfl, BW⟩)))))⟩, by decide⟩
    · clear HI
      have px : wr.cell? ⟨w.heap.size, 3, none⟩ = some (.int .u64 (x3 : Int)) := BX.cell 3
      have py : wr.cell? ⟨w.heap.size + 1, 3, none⟩ = some (.int .u64 (y3 : Int)) := BY.cell 3
      go_wp2
      refine wp_region_G (fun j => j == 13) (by kernel_rfl) ?_
      try simp only [Act.put]
      refine wpAnyG_take 0 rfl (by kernel_rfl) (fun _ _ _ h => h) (YieldsG.pure (by rfl) (fun w9 _ => by go_simp; try with_reducible rfl)) ?_
      try simp only [Act.put, List.setIfInBounds_toArray, List.set_cons_zero, List.set_cons_succ]
      refine wpAnyG_take 1 rfl (by kernel_rfl) (fun _ _ _ h => h) (YieldsG.pure (by rfl) (fun w9 _ => by go_simp; try with_reducible rfl)) ?_
      try simp only [Act.put, List.setIfInBounds_toArray, List.set_cons_zero, List.set_cons_succ]
      refine wpAnyG_take 2 rfl (by kernel_rfl) (fun _ _ _ h => h) (YieldsG.pure (by rfl) (fun w9 _ => by go_simp; try with_reducible rfl)) ?_
      try simp only [Act.put, List.setIfInBounds_toArray, List.set_cons_zero, List.set_cons_succ]
      refine wpAnyG_take 3 rfl (by kernel_rfl) (fun _ _ _ h => h) (YieldsG.pure (v := .int .u64 (x3 : Int)) (by rfl) (fun w9 h9 => by have hz := (Below.cell (p := ⟨w.heap.size, 3, none⟩) h9 lX).trans px; go_simp; first | done | simp [hz])) ?_
      try simp only [Act.put, List.setIfInBounds_toArray, List.set_cons_zero, List.set_cons_succ]
      refine wpAnyG_take 4 rfl (by kernel_rfl) (fun _ _ _ h => h) (YieldsG.pure (by rfl) (fun w9 _ => by go_simp; try with_reducible rfl)) ?_
      try simp only [Act.put, List.setIfInBounds_toArray, List.set_cons_zero, List.set_cons_succ]
      refine wpAnyG_take 5 rfl (by kernel_rfl) (fun _ _ _ h => h) (YieldsG.pure (by rfl) (fun w9 _ => by go_simp; try with_reducible rfl)) ?_
      try simp only [Act.put, List.setIfInBounds_toArray, List.set_cons_zero, List.set_cons_succ]
      refine wpAnyG_take 6 rfl (by kernel_rfl) (fun _ _ _ h => h) (YieldsG.pure (v := .int .u64 (y3 : Int)) (by rfl) (fun w9 h9 => by have hz := (Below.cell (p := ⟨w.heap.size + 1, 3, none⟩) h9 lY).trans py; go_simp; first | done | simp [hz])) ?_
      try simp only [Act.put, List.setIfInBounds_toArray, List.set_cons_zero, List.set_cons_succ]
      refine wpAnyG_take 7 rfl (by kernel_rfl) (fun _ _ _ h => h) (YieldsG.pure (by rfl) (fun w9 _ => by go_simp; try with_reducible rfl)) ?_
      try simp only [Act.put, List.setIfInBounds_toArray, List.set_cons_zero, List.set_cons_succ]
      refine wpAnyG_take 8 rfl (by kernel_rfl) (fun _ _ _ h => h) (YieldsG.pure (v := .tuple #[.int .u64 (s3 : Int), .int .u64 (c3 : Int)]) (by rfl) (fun w9 h9 => by go_simp)) ?_
      try simp only [Act.put, List.setIfInBounds_toArray, List.set_cons_zero, List.set_cons_succ]
      refine wpAnyG_take 9 rfl (by kernel_rfl) (fun _ _ _ h => h) (YieldsG.pure (by rfl) (fun w9 _ => by go_simp; try with_reducible rfl)) ?_
      try simp only [Act.put, List.setIfInBounds_toArray, List.set_cons_zero, List.set_cons_succ]
      refine wpAnyG_take 10 rfl (by kernel_rfl) (fun _ _ _ h => h) (YieldsG.pure (by rfl) (fun w9 _ => by go_simp; try with_reducible rfl)) ?_
      try simp only [Act.put, List.setIfInBounds_toArray, List.set_cons_zero, List.set_cons_succ]
      refine wpAnyG_takeA 11 rfl (by kernel_rfl) (fun _ _ _ h => h) (fun _ => YieldsG.pure (by rfl) (fun w9 _ => by go_simp; try with_reducible rfl)) ?_
      try simp only [Act.put, List.setIfInBounds_toArray, List.set_cons_zero, List.set_cons_succ]
      refine wpAnyG_take 12 rfl (by kernel_rfl) (fun _ _ _ h => h) (YieldsG.pure (by rfl) (fun w9 _ => by go_simp; try with_reducible rfl)) ?_
      try simp only [Act.put, List.setIfInBounds_toArray, List.set_cons_zero, List.set_cons_succ]
      refine wpAnyG_sole 13 rfl (by kernel_rfl) (by rfl) (fun u hu K hK => ?_)
      have BX := Gr.blk hu BX
      have BY := Gr.blk hu BY
      have BW := Gr.blk hu BW
      have hb := Below.gr hb hu
      have pc : u.cell? ⟨w.heap.size + 2, 3, none⟩ = some (.int .u64 0) := BW.cell 3
      have pf := BW.frozen 3
      clear hu px py
      go_simp
      refine hK _ _ (fun e => by cases e) ?_
      clear hK K
      have hb := hb.setCell (p := ⟨w.heap.size + 2, 3, none⟩) (by show w.heap.size ≤ w.heap.size + 2; omega) (.int .u64 (s3 : Int))
      have BX := BX.far (p := ⟨w.heap.size + 2, 3, none⟩) (by show w.heap.size ≠ w.heap.size + 2; omega) (.int .u64 (s3 : Int))
      have BY := BY.far (p := ⟨w.heap.size + 2, 3, none⟩) (by show w.heap.size + 1 ≠ w.heap.size + 2; omega) (.int .u64 (s3 : Int))
      have BW := BW.set_ 3 (.int .u64 (s3 : Int))
      refine wpAnyG_takeA 14 rfl (by kernel_rfl) (fun _ _ _ h => h) (fun _ => YieldsG.pure (by rfl) (fun w9 _ => by go_simp; try with_reducible rfl)) ?_
      try simp only [Act.put, List.setIfInBounds_toArray, List.set_cons_zero, List.set_cons_succ]
      refine wpAnyG_done (by kernel_rfl) (fun v hv => ?_)
      have hb := Below.gr hb hv
      have BX := Gr.blk hv BX
      have BY := Gr.blk hv BY
      have BW := Gr.blk hv BW
      clear hv pc pf
      go_wp2
      refine ⟨⟨hb, BX, BY, Lib.hid (.inr (.inr (.inr (.inr (⟨rfl, rfl, BW⟩)))))⟩, by decide⟩
    · clear HI
      obtain ⟨s, hsd⟩ : ∃ s, s = s0 + 18446744073709551616 * s1 + 340282366920938463463374607431768211456 * s2 + 6277101735386680763835789423207666416102355444464034512896 * s3 := ⟨_, rfl⟩
      have hf := hs.out
      have hl := hlt.out
      have hn := HF.out
      rw [← hsd] at hf hl hn
      have BS := BW.eq_ (fcs_words hf.symm).symm
      have HS := Lib.hid (And.intro hl hn)
      clear hf hl hn hsd
      go_wp2_with (first | ((with_reducible refine here_load (d := some 24) ?_); refine wpList_load_fv rfl _ _ rfl (w.heap.size + 2) rfl (s) _ _ _ (BS) (fv_fcs s) Tryd.underlying24 rfl (by kernel_rfl) ?_) | ((with_reducible refine here_store ?_); refine wpList_store_blk rfl _ _ _ rfl (w.heap.size + 2) (fcs (s)) rfl rfl _ _ (BS) (by kernel_rfl) (by rfl) (fcs_one _) ?_; intro w9 hL9 hB9 hK9))
      exact bodyPost_ret (res_cell_tmp rfl _ _ (w.heap.size + 2) _ _ _ _ rfl hL9 rfl Tryd.underlying24 rfl (by kernel_rfl)) rfl ⟨⟨s, c3, HS.out.1, HK.out, HS.out.2, rfl⟩, hb.trans (hB9 _ (by omega))⟩
theorem minus_fv (w : World) (x y s k : Nat) (hx : x < 115792089237316195423570985008687907853269984665640564039457584007913129639936) (hy : y < 115792089237316195423570985008687907853269984665640564039457584007913129639936) (hs : s < 115792089237316195423570985008687907853269984665640564039457584007913129639936) (he : s + y = x + 115792089237316195423570985008687907853269984665640564039457584007913129639936 * k) :
    Calls Tryd.prog 34 #[fv x, fv y] w fun e w' => e = .returned (.tuple #[fv s, .int .u64 (k : Int)]) ∧ Below w.heap.size w w' := by
  refine (minus_any w x y hx hy).mono ?_
  rintro e w' ⟨⟨s', k', hs', hk', he', rfl⟩, hb⟩
  obtain rfl : k' = k := by omega
  obtain rfl : s' = s := by omega
  exact ⟨rfl, hb⟩
theorem order_at (w : World) (p : Nat) (hp : p = 115792089237316195423570985008687907852837564279074904382605163141518161494337) : Calls Tryd.prog 35 #[] w fun e w' => e = .returned (fv p) ∧ Below w.heap.size w w' := by
  subst hp; exact order_any w
set_option maxHeartbeats 2000000 in
set_option maxRecDepth 100000 in
theorem reduce_at (w : World) (x k z : Nat) (dk : Int) (hdk : dk = (k : Int)) (hx : x < 115792089237316195423570985008687907853269984665640564039457584007913129639936) (hk : k ≤ 1) (h2 : x + 115792089237316195423570985008687907853269984665640564039457584007913129639936 * k < 115792089237316195423570985008687907852837564279074904382605163141518161494337 + 115792089237316195423570985008687907852837564279074904382605163141518161494337) (hz : z = (x + 115792089237316195423570985008687907853269984665640564039457584007913129639936 * k) % pM) : Calls Tryd.prog 37 #[fv x, .int .u64 dk] w fun e w' => e = .returned (fv z) ∧ Below w.heap.size w w' := by
  subst hdk
  obtain ⟨p, hp⟩ : ∃ p, p = 115792089237316195423570985008687907852837564279074904382605163141518161494337 := ⟨_, rfl⟩
  rw [pM_eq, ← hp] at hz
  rw [← hp] at h2
  have hpl : p < 115792089237316195423570985008687907853269984665640564039457584007913129639936 := by omega
  obtain ⟨s, b, hs, hb, he⟩ : ∃ s b : Nat, s < 115792089237316195423570985008687907853269984665640564039457584007913129639936 ∧ b ≤ 1 ∧ s + p = x + 115792089237316195423570985008687907853269984665640564039457584007913129639936 * b := by
    by_cases h : p ≤ x
    · exact ⟨x - p, 0, by omega, by omega, by omega⟩
    · exact ⟨x + 115792089237316195423570985008687907853269984665640564039457584007913129639936 - p, 1, by omega, by omega, by omega⟩
  have cm := fun w => minus_fv w x p s b hx hpl hs he
  have co := fun w => order_at w p hp
  have t1 : b > k → z = x := fun h => by
    obtain rfl : k = 0 := by omega
    rw [hz, Nat.mod_eq_of_lt (by omega)]; omega
  have t2 : ¬ b > k → z = s := fun h => by
    rw [hz, Nat.mod_eq_sub_mod (by omega), Nat.mod_eq_of_lt (by omega)]
    rcases (show k = 0 ∨ k = 1 by omega) with rfl | rfl <;> omega
  obtain ⟨x0, x1, x2, x3, fx⟩ := words_fv x hx
  have FX := Lib.hid fx
  rw [fx]
  clear fx hx hz hp h2 hpl hs hb he hk
  go_enter Tryd.func37, Tryd.ntmps37
  go_wp2
  refine wp_region_G (fun j => j == 7) (by kernel_rfl) ?_
  try simp only [Act.put]
  refine wpAnyG_take 0 rfl (by kernel_rfl) (fun _ _ _ h => h) (YieldsG.loadF (by rfl) _ _ rfl (w.heap.size) rfl (x) _ _ ((Blk.new w _ _).alloc _) (FX.out) Tryd.underlying24 rfl (by kernel_rfl)) ?_
  try simp only [Act.put, List.setIfInBounds_toArray, List.set_cons_zero, List.set_cons_succ]
  refine wpAnyG_take 1 rfl (by kernel_rfl) (fun _ _ _ h => h) (YieldsG.call (v := fv p) (by rfl) 35 _ (fun w9 => by go_simp; try (first | with_reducible rfl | rfl)) (fun w9 h9 => co w9)) ?_
  try simp only [Act.put, List.setIfInBounds_toArray, List.set_cons_zero, List.set_cons_succ]
  refine wpAnyG_take 2 rfl (by kernel_rfl) (fun _ _ _ h => h) (YieldsG.call (v := .tuple #[fv s, .int .u64 (b : Int)]) (by rfl) 34 _ (fun w9 => by go_simp; try (first | with_reducible rfl | rfl)) (fun w9 h9 => cm w9)) ?_
  try simp only [Act.put, List.setIfInBounds_toArray, List.set_cons_zero, List.set_cons_succ]
  refine wpAnyG_take 3 rfl (by kernel_rfl) (fun _ _ _ h => h) (YieldsG.pure (by rfl) (fun w9 _ => by go_simp; try with_reducible rfl)) ?_
  try simp only [Act.put, List.setIfInBounds_toArray, List.set_cons_zero, List.set_cons_succ]
  refine wpAnyG_take 4 rfl (by kernel_rfl) (fun _ _ _ h => h) (YieldsG.pure (by rfl) (fun w9 _ => by go_simp; try with_reducible rfl)) ?_
  try simp only [Act.put, List.setIfInBounds_toArray, List.set_cons_zero, List.set_cons_succ]
  refine wpAnyG_takeA 5 rfl (by kernel_rfl) (fun _ _ _ h => h) (fun _ => YieldsG.pure (by rfl) (fun w9 _ => by go_simp; try with_reducible rfl)) ?_
  try simp only [Act.put, List.setIfInBounds_toArray, List.set_cons_zero, List.set_cons_succ]
  refine wpAnyG_sole 6 rfl (by kernel_rfl) (by rfl) (fun w3 h3 K hK => ?_)
  go_simp
  refine hK _ _ (fun _ => gr_alloc _ _) ?_
  clear hK K
  try simp only [Act.put, List.setIfInBounds_toArray, List.set_cons_zero, List.set_cons_succ]
  refine wpAnyG_store 7 rfl (by kernel_rfl) (by rfl) _ _ _ rfl (w3.heap.size) (fcs (s)) rfl rfl _ _ (Blk.new w3 _ _) (by kernel_rfl) (by rfl) (fcs_one _) rfl (fun w6 h6 w7 hB7 hL7 => ?_)
  try simp only [Act.put]
  refine wpAnyG_takeA 8 rfl (by kernel_rfl) (fun _ _ _ h => h) (fun _ => YieldsG.pure (by rfl) (fun w9 _ => by go_simp; try with_reducible rfl)) ?_
  try simp only [Act.put, List.setIfInBounds_toArray, List.set_cons_zero, List.set_cons_succ]
  refine wpAnyG_done (by kernel_rfl) (fun w8 h8 => ?_)
  have BS := Gr.blk h8 hL7
  have hsz : w.heap.size + 2 ≤ w3.heap.size := by have := h3.size; simp at this; omega
  have BX : Blk w8 w.heap.size 24 _ := Gr.blk h8 (Blk.below (B := w3.heap.size) (Gr.blk h6 (Blk.alloc (Gr.blk h3 ((Blk.new w _ _).alloc _)) _)) (hB7 _ (Nat.le_refl _)) (by omega))
  have BR : Blk w8 (w.heap.size + 1) 24 _ := Gr.blk h8 (Blk.below (B := w3.heap.size) (Gr.blk h6 (Blk.alloc (Gr.blk h3 (blk_new2 w _ _ _)) _)) (hB7 _ (Nat.le_refl _)) (by omega))
  have hB : Below w.heap.size w w8 := Below.gr ((Below.gr ((Below.gr (below_alloc2 w _ _) h3).alloc (by omega) _) h6).trans (hB7 _ (by omega))) h8
  clear h3 h6 hB7 hL7 h8 cm co
  by_cases hbk : b > k
  · have HZ := Lib.hid (t1 hbk)
    have p0 : (b : Int) > (k : Int) := by omega
    clear t1 t2 hbk
    go_wp2_with (first | ((with_reducible refine here_load (d := some 16) ?_); refine wpList_load_fv rfl _ _ rfl (w.heap.size) rfl (x) _ _ _ (BX) (FX.out) Tryd.underlying24 rfl (by kernel_rfl) ?_) | ((with_reducible refine here_store ?_); refine wpList_store_blk rfl _ _ _ rfl (w.heap.size + 1) (fcs (x)) rfl rfl _ _ (BR) (by kernel_rfl) (by rfl) (fcs_one _) ?_; intro w9 hL9 hB9 hK9))
    exact bodyPost_ret (results_cell_row rfl _ _ (w.heap.size + 1) _ _ (0, 0) _ rfl hL9 Tryd.underlying24 rfl (by kernel_rfl)) rfl ⟨by rw [HZ.out]; rfl, hB.trans (hB9 _ (by omega))⟩
  · have HZ := Lib.hid (t2 hbk)
    have p0 : ¬ (b : Int) > (k : Int) := by omega
    clear t1 t2 hbk
    go_wp2_with (first | ((with_reducible refine here_load (d := some 17) ?_); refine wpList_load_fv rfl _ _ rfl (w3.heap.size) rfl (s) _ _ _ (BS) (fv_fcs s) Tryd.underlying24 rfl (by kernel_rfl) ?_) | ((with_reducible refine here_store ?_); refine wpList_store_blk rfl _ _ _ rfl (w.heap.size + 1) (fcs (s)) rfl rfl _ _ (BR) (by kernel_rfl) (by rfl) (fcs_one _) ?_; intro w9 hL9 hB9 hK9))
    exact bodyPost_ret (results_cell_row rfl _ _ (w.heap.size + 1) _ _ (0, 0) _ rfl hL9 Tryd.underlying24 rfl (by kernel_rfl)) rfl ⟨by rw [HZ.out]; rfl, hB.trans (hB9 _ (by omega))⟩
set_option maxHeartbeats 1000000 in
theorem norm_any (w : World) (x : Nat) (hx : x < 115792089237316195423570985008687907853269984665640564039457584007913129639936) : Calls Tryd.prog 36 #[fv x] w fun e w' => e = .returned (fv (x % pM)) ∧ Below w.heap.size w w' := by
  obtain ⟨z, hz⟩ : ∃ z, z = x % pM := ⟨_, rfl⟩
  have cr := fun w => reduce_at w x 0 z 0 rfl hx (by omega) (by omega) (by rw [hz]; rfl)
  obtain ⟨x0, x1, x2, x3, fx⟩ := words_fv x hx
  have FX := Lib.hid fx
  rw [fx] at cr ⊢
  rw [← hz]
  clear fx hx hz
  go_enter Tryd.func36, Tryd.ntmps36
  go_wp2_with fail
  refine (cr _).mono ?_
  rintro e w1 ⟨rfl, hb1⟩
  have hg := Below.gr (below_alloc2 w _ _) hb1
  have hR : Blk w1 (w.heap.size + 1) 24 _ := Gr.blk hb1 (blk_new2 w _ _ _)
  go_wp2_with (first | ((with_reducible refine here_store ?_); refine wpList_store_blk rfl _ _ _ rfl (w.heap.size + 1) (fcs (z)) rfl rfl _ _ (hR) (by kernel_rfl) (by rfl) (fcs_one _) ?_; intro w4 hL hB4 hK4))
  exact bodyPost_ret (results_cell_row rfl _ _ (w.heap.size + 1) _ _ (0, 0) _ rfl hL Tryd.underlying24 rfl (by kernel_rfl)) rfl ⟨rfl, hg.trans (hB4 _ (by omega))⟩
set_option maxHeartbeats 8000000 in
set_option maxRecDepth 100000 in
theorem bytes_any (w : World) (x : Nat) (hx : x < 115792089237316195423570985008687907853269984665640564039457584007913129639936) : Calls Tryd.prog 18 #[fv x] w fun e w' => e = .returned (.agg ((bytesS (x % pM)).map bv).toArray) ∧ Below w.heap.size w w' := by
  obtain ⟨z, hz⟩ : ∃ z, z = x % pM := ⟨_, rfl⟩
  have hzl : z < 115792089237316195423570985008687907853269984665640564039457584007913129639936 := by rw [hz]; exact mod_lt x
  have cn : ∀ w, Calls Tryd.prog 36 #[fv x] w fun e w' => e = .returned (fv z) ∧ Below w.heap.size w w' := by
    intro w; rw [hz]; exact norm_any w x hx
  rw [← hz]
  obtain ⟨z0, z1, z2, z3, a0, a1, a2, a3, ez, fz⟩ := words_of z hzl
  have HZ := Lib.hid (And.intro a0 (And.intro a1 (And.intro a2 (And.intro a3 ez))))
  have FZ := Lib.hid fz
  obtain ⟨x0, x1, x2, x3, fx⟩ := words_fv x hx
  rw [fx] at cn ⊢
  clear fx fz hz hzl a0 a1 a2 a3 ez hx
  have hZB : Hid ((List.replicate 32 (Value.int .u8 0)).toArray = ((partB z 0).map bv).toArray) := Lib.hid (by simp [partB, lowB, bv])
  go_enter Tryd.func18, Tryd.ntmps18
  go_wp2_with fail
  refine (cn _).mono ?_
  rintro e w1 ⟨rfl, hb⟩
  have BR : Blk w1 (w.heap.size + 1) 30 _ := Gr.blk hb (Blk.alloc (blk_new2 w _ _ _) _)
  have BB : Blk w1 (w.heap.size + 2) 30 ((partB z 0).map bv).toArray := Blk.eq_ (Gr.blk hb (blk_new3 w _ _ _ _)) hZB.out
  have hB := Below.gr (below_alloc3 w _ _ _) hb
  have sz := BB.lt
  clear hb cn
  go_wp2_with (first | ((with_reducible refine here_store ?_); refine wpList_store_blk rfl _ _ _ rfl (w1.heap.size) (fcs (z)) rfl rfl _ _ (Blk.new w1 _ _) (by kernel_rfl) (by rfl) (fcs_one _) ?_; intro w2 hL2 hB2 hK2; have CR := hK2 _ (by omega) _ _ (BR.alloc _); have CB := hK2 _ (by omega) _ _ (BB.alloc _); have hC := (hB.alloc (by omega) _).trans (hB2 _ (by omega))))
  go_loopw [8] (fun i wr => ∃ k : Nat, k ≤ 32 ∧ i = .int .i64 (k : Int) ∧ Below w.heap.size w wr ∧ Blk wr (w.heap.size + 2) 30 ((partB z k).map bv).toArray ∧ Blk wr w1.heap.size 24 #[.int .u64 (z0 : Int), .int .u64 (z1 : Int), .int .u64 (z2 : Int), .int .u64 (z3 : Int)] ∧ Blk wr (w.heap.size + 1) 30 (List.replicate 32 (Value.int .u8 0)).toArray) (fun i _ => 32 - (intOf i).toNat)
  case atStart => exact ⟨0, by omega, rfl, hC, CB, hL2.eq_ (fcs_words FZ.out), CR⟩
  case round =>
    obtain ⟨k, hk, rfl, hb, hP, hN, hR⟩ := hrel
    by_cases hlt : k < 32
    · have ce : ∀ j, j < 32 → ∃ v, wr.cell? ⟨w.heap.size + 1 + 1, j, none⟩ = some v := fun j hj => ⟨_, (hP.cell j).trans (Array.getElem?_eq_getElem (by simp [partB_length z k hk]; exact hj))⟩
      obtain ⟨v, hv⟩ := ce (31 - k) (by omega)
      have ff := hP.frozen (31 - k)
      have q0 : wr.cell? ⟨w1.heap.size, 0, none⟩ = some (.int .u64 (z0 : Int)) := hN.cell 0
      have q1 : wr.cell? ⟨w1.heap.size, 1, none⟩ = some (.int .u64 (z1 : Int)) := hN.cell 1
      have q2 : wr.cell? ⟨w1.heap.size, 2, none⟩ = some (.int .u64 (z2 : Int)) := hN.cell 2
      have q3 : wr.cell? ⟨w1.heap.size, 3, none⟩ = some (.int .u64 (z3 : Int)) := hN.cell 3
      have hPn := hP.set_ (31 - k) (bv (byteN z k))
      rw [partB_set z k hlt] at hPn
      have HP := Lib.hid hPn
      clear hPn ce
      have HR := Lib.hid (And.intro hb (And.intro hN hR))
      clear hb hP hN hR hk
      have hsz : w.heap.size + 2 < w1.heap.size := sz
      rcases (show k = 0 ∨ k = 1 ∨ k = 2 ∨ k = 3 ∨ k = 4 ∨ k = 5 ∨ k = 6 ∨ k = 7 ∨ k = 8 ∨ k = 9 ∨ k = 10 ∨ k = 11 ∨ k = 12 ∨ k = 13 ∨ k = 14 ∨ k = 15 ∨ k = 16 ∨ k = 17 ∨ k = 18 ∨ k = 19 ∨ k = 20 ∨ k = 21 ∨ k = 22 ∨ k = 23 ∨ k = 24 ∨ k = 25 ∨ k = 26 ∨ k = 27 ∨ k = 28 ∨ k = 29 ∨ k = 30 ∨ k = 31 by omega) with rfl | rfl | rfl | rfl | rfl | rfl | rfl | rfl | rfl | rfl | rfl | rfl | rfl | rfl | rfl | rfl | rfl | rfl | rfl | rfl | rfl | rfl | rfl | rfl | rfl | rfl | rfl | rfl | rfl | rfl | rfl | rfl
      all_goals
        go_wp2
        obtain ⟨a0, a1, a2, a3, ez⟩ := HZ.out
        refine ⟨⟨_, by decide, rfl, HR.out.1.setCell (by show w.heap.size ≤ w.heap.size + 1 + 1; omega) _, HP.out.val (by rw [bv_byteN]; congr 1; omega), HR.out.2.1.far (by show w1.heap.size ≠ w.heap.size + 1 + 1; omega) _, HR.out.2.2.far (by show w.heap.size + 1 ≠ w.heap.size + 1 + 1; omega) _⟩, by simp [intOf]⟩
    · have p1 : ¬ (k : Int) < 32 := by omega
      obtain rfl : k = 32 := by omega
      rw [partB_full] at hP
      have HI := Lib.hid (bytesS_length z)
      have HL := Lib.hid hP
      have HR := Lib.hid hR
      clear hN hP hR
      go_wp2_with (first | ((with_reducible refine here_load (d := some 24) ?_); refine wpList_load_blk rfl _ _ rfl (w.heap.size + 2) rfl _ _ _ HL.out Tryd.underlying30 rfl (b32_info HI.out) ?_) | ((with_reducible refine here_store ?_); refine wpList_store_blk rfl _ _ _ rfl (w.heap.size + 1) ((bytesS z).map bv).toArray rfl rfl _ _ HR.out (b32_info HI.out) (by simp [HI.out]) (b32_one _) ?_; intro w9 hL9 hB9 hK9))
      exact bodyPost_ret (results_cell_row rfl _ _ (w.heap.size + 1) _ _ (0, 0) _ rfl hL9 Tryd.underlying30 rfl (b32_info HI.out)) rfl ⟨rfl, hb.trans (hB9 _ (by omega))⟩

end Go.Proofs.YtbofhoonlmikcaaDoor.Sc

end
section
namespace Go.Proofs.YtbofhoonlmikcaaDoor
open Go.RowKit Go.Lib

end Go.Proofs.YtbofhoonlmikcaaDoor

end
section
namespace Go.Proofs.YtbofhoonlmikcaaDoor
open Go.RowKit Go.Lib

end Go.Proofs.YtbofhoonlmikcaaDoor

end
section
namespace Go.Proofs.YtbofhoonlmikcaaDoor
open Go.RowKit Go.Lib

end Go.Proofs.YtbofhoonlmikcaaDoor

end
section
namespace Go.Proofs.YtbofhoonlmikcaaDoor
open Go.RowKit Go.Lib

section
variable {P : Program} {ops : Array Oper}
end

end Go.Proofs.YtbofhoonlmikcaaDoor

end
section
namespace Go.Proofs.YtbofhoonlmikcaaDoor
open Go.RowKit Go.Lib

end Go.Proofs.YtbofhoonlmikcaaDoor

end
section
namespace Go.Proofs.YtbofhoonlmikcaaDoor
open Go.RowKit Go.Lib

end Go.Proofs.YtbofhoonlmikcaaDoor

end
section
namespace Go.Proofs.YtbofhoonlmikcaaDoor
open Go.RowKit Sp

/-- the bytes m lie at the address A -/
def Src (w : World) (A : Option Addr) (m : List UInt8) : Prop :=
  m ≠ [] → ∃ b o, A = some ⟨b, o, none⟩ ∧ b < w.heap.size ∧ ∀ j u, m[j]? = some u → w.cell? ⟨b, o + j, none⟩ = some (bv u)

theorem Src.keep {w w' : World} {A : Option Addr} {m : List UInt8} (h : Src w A m) (hs : w.heap.size ≤ w'.heap.size) (hk : m ≠ [] → ∀ a, A = some a → a.block < w.heap.size → w'.heap[a.block]? = w.heap[a.block]?) : Src w' A m := fun hm => by
  obtain ⟨b, o, rfl, hb, hc⟩ := h hm
  exact ⟨b, o, rfl, by omega, fun j u hu => (World.cell?_of_block (w := w) (a := ⟨b, o + j, none⟩) (show w'.heap[b]? = w.heap[b]? from hk hm ⟨b, o, none⟩ rfl hb)).trans (hc j u hu)⟩
theorem Src.below {w w' : World} {A : Option Addr} {m : List UInt8} (h : Src w A m) (hb : Below w.heap.size w w') : Src w' A m :=
  h.keep hb.size fun _ _ _ hl => hb.block _ hl

end Go.Proofs.YtbofhoonlmikcaaDoor

end
section
namespace Go.Proofs.YtbofhoonlmikcaaDoor
open Go.RowKit Go.Lib

end Go.Proofs.YtbofhoonlmikcaaDoor

end
section
namespace Go.Proofs.YtbofhoonlmikcaaDoor.Cu
open Go.RowKit Go.Proofs.YtbofhoonlmikcaaDoor Go.Proofs.YtbofhoonlmikcaaDoor.Sy
set_option maxRecDepth 100000
set_option maxHeartbeats 4000000

end Go.Proofs.YtbofhoonlmikcaaDoor.Cu

end
section
namespace Go.Proofs.YtbofhoonlmikcaaDoor
open Go.RowKit Go.Lib

set_option maxHeartbeats 8000000 in
set_option maxRecDepth 100000 in
theorem bytes_any (w : World) (x : Nat) (hx : x < 115792089237316195423570985008687907853269984665640564039457584007913129639936) : Calls Tryd.prog 33 #[fv x] w fun e w' => e = .returned (.agg ((bytesS (x % pM)).map bv).toArray) ∧ Below w.heap.size w w' := by
  obtain ⟨z, hz⟩ : ∃ z, z = x % pM := ⟨_, rfl⟩
  have hzl : z < 115792089237316195423570985008687907853269984665640564039457584007913129639936 := by rw [hz]; exact mod_lt x
  have cn : ∀ w, Calls Tryd.prog 47 #[fv x] w fun e w' => e = .returned (fv z) ∧ Below w.heap.size w w' := by
    intro w; rw [hz]; exact norm_any w x hx
  rw [← hz]
  obtain ⟨z0, z1, z2, z3, a0, a1, a2, a3, ez, fz⟩ := words_of z hzl
  have HZ := Lib.hid (And.intro a0 (And.intro a1 (And.intro a2 (And.intro a3 ez))))
  have FZ := Lib.hid fz
  obtain ⟨x0, x1, x2, x3, fx⟩ := words_fv x hx
  rw [fx] at cn ⊢
  clear fx fz hz hzl a0 a1 a2 a3 ez hx
  have hZB : Hid ((List.replicate 32 (Value.int .u8 0)).toArray = ((partB z 0).map bv).toArray) := Lib.hid (by simp [partB, lowB, bv])
  go_enter Tryd.func33, Tryd.ntmps33
  go_wp2_with fail
  refine (cn _).mono ?_
  rintro e w1 ⟨rfl, hb⟩
  have BR : Blk w1 (w.heap.size + 1) 30 _ := Gr.blk hb (Blk.alloc (blk_new2 w _ _ _) _)
  have BB : Blk w1 (w.heap.size + 2) 30 ((partB z 0).map bv).toArray := Blk.eq_ (Gr.blk hb (blk_new3 w _ _ _ _)) hZB.out
  have hB := Below.gr (below_alloc3 w _ _ _) hb
  have sz := BB.lt
  clear hb cn
  go_wp2_with (first | ((with_reducible refine here_store ?_); refine wpList_store_blk rfl _ _ _ rfl (w1.heap.size) (fcs (z)) rfl rfl _ _ (Blk.new w1 _ _) (by kernel_rfl) (by rfl) (fcs_one _) ?_; intro w2 hL2 hB2 hK2; have CR := hK2 _ (by omega) _ _ (BR.alloc _); have CB := hK2 _ (by omega) _ _ (BB.alloc _); have hC := (hB.alloc (by omega) _).trans (hB2 _ (by omega))))
  go_loopw [8] (fun i wr => ∃ k : Nat, k ≤ 32 ∧ i = .int .i64 (k : Int) ∧ Below w.heap.size w wr ∧ Blk wr (w.heap.size + 2) 30 ((partB z k).map bv).toArray ∧ Blk wr w1.heap.size 41 #[.int .u64 (z0 : Int), .int .u64 (z1 : Int), .int .u64 (z2 : Int), .int .u64 (z3 : Int)] ∧ Blk wr (w.heap.size + 1) 30 (List.replicate 32 (Value.int .u8 0)).toArray) (fun i _ => 32 - (intOf i).toNat)
  case atStart => exact ⟨0, by omega, rfl, hC, CB, hL2.eq_ (fcs_words FZ.out), CR⟩
  case round =>
    obtain ⟨k, hk, rfl, hb, hP, hN, hR⟩ := hrel
    by_cases hlt : k < 32
    · have ce : ∀ j, j < 32 → ∃ v, wr.cell? ⟨w.heap.size + 1 + 1, j, none⟩ = some v := fun j hj => ⟨_, (hP.cell j).trans (Array.getElem?_eq_getElem (by simp [partB_length z k hk]; exact hj))⟩
      obtain ⟨v, hv⟩ := ce (31 - k) (by omega)
      have ff := hP.frozen (31 - k)
      have q0 : wr.cell? ⟨w1.heap.size, 0, none⟩ = some (.int .u64 (z0 : Int)) := hN.cell 0
      have q1 : wr.cell? ⟨w1.heap.size, 1, none⟩ = some (.int .u64 (z1 : Int)) := hN.cell 1
      have q2 : wr.cell? ⟨w1.heap.size, 2, none⟩ = some (.int .u64 (z2 : Int)) := hN.cell 2
      have q3 : wr.cell? ⟨w1.heap.size, 3, none⟩ = some (.int .u64 (z3 : Int)) := hN.cell 3
      have hPn := hP.set_ (31 - k) (bv (byteN z k))
      rw [partB_set z k hlt] at hPn
      have HP := Lib.hid hPn
      clear hPn ce
      have HR := Lib.hid (And.intro hb (And.intro hN hR))
      clear hb hP hN hR hk
      have hsz : w.heap.size + 2 < w1.heap.size := sz
      rcases (show k = 0 ∨ k = 1 ∨ k = 2 ∨ k = 3 ∨ k = 4 ∨ k = 5 ∨ k = 6 ∨ k = 7 ∨ k = 8 ∨ k = 9 ∨ k = 10 ∨ k = 11 ∨ k = 12 ∨ k = 13 ∨ k = 14 ∨ k = 15 ∨ k = 16 ∨ k = 17 ∨ k = 18 ∨ k = 19 ∨ k = 20 ∨ k = 21 ∨ k = 22 ∨ k = 23 ∨ k = 24 ∨ k = 25 ∨ k = 26 ∨ k = 27 ∨ k = 28 ∨ k = 29 ∨ k = 30 ∨ k = 31 by omega) with rfl | rfl | rfl | rfl | rfl | rfl | rfl | rfl | rfl | rfl | rfl | rfl | rfl | rfl | rfl | rfl | rfl | rfl | rfl | rfl | rfl | rfl | rfl | rfl | rfl | rfl | rfl | rfl | rfl | rfl | rfl | rfl
      all_goals
        go_wp2
        obtain ⟨a0, a1, a2, a3, ez⟩ := HZ.out
        refine ⟨⟨_, by decide, rfl, HR.out.1.setCell (by show w.heap.size ≤ w.heap.size + 1 + 1; omega) _, HP.out.val (by rw [bv_byteN]; congr 1; omega), HR.out.2.1.far (by show w1.heap.size ≠ w.heap.size + 1 + 1; omega) _, HR.out.2.2.far (by show w.heap.size + 1 ≠ w.heap.size + 1 + 1; omega) _⟩, by simp [intOf]⟩
    · have p1 : ¬ (k : Int) < 32 := by omega
      obtain rfl : k = 32 := by omega
      rw [partB_full] at hP
      have HI := Lib.hid (bytesS_length z)
      have HL := Lib.hid hP
      have HR := Lib.hid hR
      clear hN hP hR
      go_wp2_with (first | ((with_reducible refine here_load (d := some 24) ?_); refine wpList_load_blk rfl _ _ rfl (w.heap.size + 2) rfl _ _ _ HL.out Tryd.underlying30 rfl (b32_info HI.out) ?_) | ((with_reducible refine here_store ?_); refine wpList_store_blk rfl _ _ _ rfl (w.heap.size + 1) ((bytesS z).map bv).toArray rfl rfl _ _ HR.out (b32_info HI.out) (by simp [HI.out]) (b32_one _) ?_; intro w9 hL9 hB9 hK9))
      exact bodyPost_ret (results_cell_row rfl _ _ (w.heap.size + 1) _ _ (0, 0) _ rfl hL9 Tryd.underlying30 rfl (b32_info HI.out)) rfl ⟨rfl, hb.trans (hB9 _ (by omega))⟩
end Go.Proofs.YtbofhoonlmikcaaDoor

end
section
namespace Go.Proofs.YtbofhoonlmikcaaDoor
open Go.RowKit Go.Lib

/-- what Read answers -/
def readS (l : List UInt8) : Nat × Bool := if valB l < pM then (valB l, true) else (0, false)

set_option maxHeartbeats 8000000 in
set_option maxRecDepth 100000 in
theorem read_any (w : World) (l : List UInt8) (hl : l.length = 32) : Calls Tryd.prog 24 #[.agg (l.map bv).toArray] w fun e w' => e = .returned (.tuple #[fv (readS l).1, .bool (readS l).2]) ∧ Below w.heap.size w w' := by
  have HL := Lib.hid hl
  clear hl
  go_enter Tryd.func24, Tryd.ntmps24
  go_wp2_with (first | ((with_reducible refine here_load (d := some 7) ?_); refine wpList_load_blk rfl _ _ rfl w.heap.size rfl _ _ _ (((Blk.new w _ _).alloc _).alloc _) Tryd.underlying30 rfl (b32_info HL.out) ?_))
  go_loopw [8] (fun i wr => ∃ k y0 y1 y2 y3 : Nat, k ≤ 32 ∧ i = .int .i64 (k : Int) ∧ Hid (y0 = wdB l k 0 ∧ y1 = wdB l k 1 ∧ y2 = wdB l k 2 ∧ y3 = wdB l k 3) ∧ Below w.heap.size w wr ∧ Blk wr (w.heap.size + 2) 41 #[.int .u64 (y3 : Int), .int .u64 (y2 : Int), .int .u64 (y1 : Int), .int .u64 (y0 : Int)] ∧ Blk wr (w.heap.size + 1) 41 #[.int .u64 0, .int .u64 0, .int .u64 0, .int .u64 0]) (fun i _ => 32 - (intOf i).toNat)
  case atStart => exact ⟨0, 0, 0, 0, 0, by omega, rfl, Lib.hid ⟨(wdB_zero l 0).symm, (wdB_zero l 1).symm, (wdB_zero l 2).symm, (wdB_zero l 3).symm⟩, below_alloc3 w _ _ _, blk_new3 w _ _ _ _, (blk_new2 w _ _ _).alloc _⟩
  case round =>
    obtain ⟨k, y0, y1, y2, y3, hk, rfl, HY, hb, hP, hR⟩ := hrel
    have q3 : wr.cell? ⟨w.heap.size + 1 + 1, 0, none⟩ = some (.int .u64 (y3 : Int)) := hP.cell 0
    have q2 : wr.cell? ⟨w.heap.size + 1 + 1, 1, none⟩ = some (.int .u64 (y2 : Int)) := hP.cell 1
    have q1 : wr.cell? ⟨w.heap.size + 1 + 1, 2, none⟩ = some (.int .u64 (y1 : Int)) := hP.cell 2
    have q0 : wr.cell? ⟨w.heap.size + 1 + 1, 3, none⟩ = some (.int .u64 (y0 : Int)) := hP.cell 3
    have ff : ∀ j, wr.frozen? ⟨w.heap.size + 1 + 1, j, none⟩ = false := fun j => hP.frozen j
    by_cases hlt : k < 32
    · obtain ⟨c, hc⟩ : ∃ c, l[k]? = some c := ⟨l[k]'(by rw [HL.out]; exact hlt), List.getElem?_eq_getElem _⟩
      have HC := Lib.hid hc
      obtain ⟨m, hm⟩ : ∃ m, m = c.toNat := ⟨_, rfl⟩
      have hm8 : m < 256 := by rw [hm]; exact c.toNat_lt
      have hI : ∀ W, (Instr.index 30 (.agg (l.map bv).toArray) (.int .i64 (k : Int))).run Tryd.prog W = .ok (.int .u8 (m : Int)) W := fun W => by
        rw [run_index_b32 W l k c hc hlt, hm]; rfl
      have HM := Lib.hid hm
      have HR := Lib.hid (And.intro hb (And.intro hP hR))
      clear hb hP hR hc hk hm
      rcases (show k = 0 ∨ k = 1 ∨ k = 2 ∨ k = 3 ∨ k = 4 ∨ k = 5 ∨ k = 6 ∨ k = 7 ∨ k = 8 ∨ k = 9 ∨ k = 10 ∨ k = 11 ∨ k = 12 ∨ k = 13 ∨ k = 14 ∨ k = 15 ∨ k = 16 ∨ k = 17 ∨ k = 18 ∨ k = 19 ∨ k = 20 ∨ k = 21 ∨ k = 22 ∨ k = 23 ∨ k = 24 ∨ k = 25 ∨ k = 26 ∨ k = 27 ∨ k = 28 ∨ k = 29 ∨ k = 30 ∨ k = 31 by omega) with rfl | rfl | rfl | rfl | rfl | rfl | rfl | rfl | rfl | rfl | rfl | rfl | rfl | rfl | rfl | rfl | rfl | rfl | rfl | rfl | rfl | rfl | rfl | rfl | rfl | rfl | rfl | rfl | rfl | rfl | rfl | rfl
      all_goals
        simp only [Int.cast_ofNat_Int] at hI
      all_goals
        first
        | ((have hy : y0 < 72057594037927936 := by rw [HY.out.1]; exact wdB_lt l _ 0 (by decide)); (have ho := or_add y0 m hy hm8); go_wp2; (refine ⟨⟨_, y0 * 256 + m, y1, y2, y3, by decide, rfl, Lib.hid ⟨by rw [HY.out.1, HM.out]; exact (wdB_step l _ 0 c HC.out (by decide)).symm, by rw [HY.out.2.1]; exact (wdB_same l _ 1 (by decide)).symm, by rw [HY.out.2.2.1]; exact (wdB_same l _ 2 (by decide)).symm, by rw [HY.out.2.2.2]; exact (wdB_same l _ 3 (by decide)).symm⟩, HR.out.1.setCell (by show w.heap.size ≤ w.heap.size + 1 + 1; omega) _, Blk.eq_ (HR.out.2.1.set_ 3 _) (by rw [show ((y0 * 256 + m : Nat) : Int) = (y0 : Int) * 256 + (m : Int) by omega]; rfl), HR.out.2.2.far (by show w.heap.size + 1 ≠ w.heap.size + 1 + 1; omega) _⟩, by simp [intOf]⟩))
        | ((have hy : y1 < 72057594037927936 := by rw [HY.out.2.1]; exact wdB_lt l _ 1 (by decide)); (have ho := or_add y1 m hy hm8); go_wp2; (refine ⟨⟨_, y0, y1 * 256 + m, y2, y3, by decide, rfl, Lib.hid ⟨by rw [HY.out.1]; exact (wdB_same l _ 0 (by decide)).symm, by rw [HY.out.2.1, HM.out]; exact (wdB_step l _ 1 c HC.out (by decide)).symm, by rw [HY.out.2.2.1]; exact (wdB_same l _ 2 (by decide)).symm, by rw [HY.out.2.2.2]; exact (wdB_same l _ 3 (by decide)).symm⟩, HR.out.1.setCell (by show w.heap.size ≤ w.heap.size + 1 + 1; omega) _, Blk.eq_ (HR.out.2.1.set_ 2 _) (by rw [show ((y1 * 256 + m : Nat) : Int) = (y1 : Int) * 256 + (m : Int) by omega]; rfl), HR.out.2.2.far (by show w.heap.size + 1 ≠ w.heap.size + 1 + 1; omega) _⟩, by simp [intOf]⟩))
        | ((have hy : y2 < 72057594037927936 := by rw [HY.out.2.2.1]; exact wdB_lt l _ 2 (by decide)); (have ho := or_add y2 m hy hm8); go_wp2; (refine ⟨⟨_, y0, y1, y2 * 256 + m, y3, by decide, rfl, Lib.hid ⟨by rw [HY.out.1]; exact (wdB_same l _ 0 (by decide)).symm, by rw [HY.out.2.1]; exact (wdB_same l _ 1 (by decide)).symm, by rw [HY.out.2.2.1, HM.out]; exact (wdB_step l _ 2 c HC.out (by decide)).symm, by rw [HY.out.2.2.2]; exact (wdB_same l _ 3 (by decide)).symm⟩, HR.out.1.setCell (by show w.heap.size ≤ w.heap.size + 1 + 1; omega) _, Blk.eq_ (HR.out.2.1.set_ 1 _) (by rw [show ((y2 * 256 + m : Nat) : Int) = (y2 : Int) * 256 + (m : Int) by omega]; rfl), HR.out.2.2.far (by show w.heap.size + 1 ≠ w.heap.size + 1 + 1; omega) _⟩, by simp [intOf]⟩))
        | ((have hy : y3 < 72057594037927936 := by rw [HY.out.2.2.2]; exact wdB_lt l _ 3 (by decide)); (have ho := or_add y3 m hy hm8); go_wp2; (refine ⟨⟨_, y0, y1, y2, y3 * 256 + m, by decide, rfl, Lib.hid ⟨by rw [HY.out.1]; exact (wdB_same l _ 0 (by decide)).symm, by rw [HY.out.2.1]; exact (wdB_same l _ 1 (by decide)).symm, by rw [HY.out.2.2.1]; exact (wdB_same l _ 2 (by decide)).symm, by rw [HY.out.2.2.2, HM.out]; exact (wdB_step l _ 3 c HC.out (by decide)).symm⟩, HR.out.1.setCell (by show w.heap.size ≤ w.heap.size + 1 + 1; omega) _, Blk.eq_ (HR.out.2.1.set_ 0 _) (by rw [show ((y3 * 256 + m : Nat) : Int) = (y3 : Int) * 256 + (m : Int) by omega]; rfl), HR.out.2.2.far (by show w.heap.size + 1 ≠ w.heap.size + 1 + 1; omega) _⟩, by simp [intOf]⟩))
    · have p1 : ¬ (k : Int) < 32 := by omega
      obtain rfl : k = 32 := by omega
      have b0 : y0 < 18446744073709551616 := by rw [HY.out.1]; exact wdB_lt8 l _ _
      have b1 : y1 < 18446744073709551616 := by rw [HY.out.2.1]; exact wdB_lt8 l _ _
      have b2 : y2 < 18446744073709551616 := by rw [HY.out.2.2.1]; exact wdB_lt8 l _ _
      have b3 : y3 < 18446744073709551616 := by rw [HY.out.2.2.2]; exact wdB_lt8 l _ _
      obtain ⟨z, hz⟩ : ∃ z, z = y3 + 18446744073709551616 * y2 + 340282366920938463463374607431768211456 * y1 + 6277101735386680763835789423207666416102355444464034512896 * y0 := ⟨_, rfl⟩
      have fz := fv_mk y3 y2 y1 y0 b3 b2 b1 b0
      rw [← hz] at fz
      have hzl : z < 115792089237316195423570985008687907853269984665640564039457584007913129639936 := by rw [hz]; exact fv_lt y3 y2 y1 y0 b3 b2 b1 b0
      have hzv : z = valB l := by rw [wdB_all l HL.out, hz, HY.out.1, HY.out.2.1, HY.out.2.2.1, HY.out.2.2.2]
      obtain ⟨n, hn⟩ : ∃ n, n = z % pM := ⟨_, rfl⟩
      have hnl : n < 115792089237316195423570985008687907853269984665640564039457584007913129639936 := by rw [hn]; exact mod_lt z
      obtain ⟨b, hbd⟩ : ∃ b, b = decide (n ≠ z) := ⟨_, rfl⟩
      have eb : ∀ W, (binOp .neq 41 (fv n) (fv z)).run Tryd.prog W = .ok (.bool b) W := fun W => by rw [hbd]; exact run_neq_fv W n z hnl hzl
      have cn : ∀ w, Calls Tryd.prog 47 #[fv z] w fun e w' => e = .returned (fv n) ∧ Below w.heap.size w w' := by
        intro w; rw [hn]; exact norm_any w z hzl
      have hS : readS l = if b = true then (0, false) else (z, true) := by
        unfold readS
        rw [← hzv, hbd, hn]
        by_cases h : z < pM
        · rw [if_pos h, Nat.mod_eq_of_lt h]; simp
        · have h2 : z % pM ≠ z := fun e => h (by rw [← e]; exact mod_lt_p z)
          rw [if_neg h]; simp [h2]
      have HS := Lib.hid hS
      have FZ := Lib.hid fz.symm
      have HP := Lib.hid hP
      clear HY b0 b1 b2 b3 hz fz hzl hzv hn hnl hbd hS q0 q1 q2 q3 ff hP
      go_wp2
      refine wp_region_G (fun _ => false) (by kernel_rfl) ?_
      try simp only [Act.put]
      refine wpAnyG_take 0 rfl (by kernel_rfl) (fun _ _ _ h => h) (YieldsG.loadF (by rfl) _ _ rfl (w.heap.size + 2) rfl (z) _ _ (HP.out) (FZ.out) Tryd.underlying41 rfl (by kernel_rfl)) ?_
      try simp only [Act.put, List.setIfInBounds_toArray, List.set_cons_zero, List.set_cons_succ]
      refine wpAnyG_take 1 rfl (by kernel_rfl) (fun _ _ _ h => h) (YieldsG.call (v := fv n) (by rfl) 47 _ (fun w9 => by go_simp; try (first | with_reducible rfl | rfl)) (fun w9 h9 => cn w9)) ?_
      try simp only [Act.put, List.setIfInBounds_toArray, List.set_cons_zero, List.set_cons_succ]
      refine wpAnyG_take 2 rfl (by kernel_rfl) (fun _ _ _ h => h) (YieldsG.loadF (by rfl) _ _ rfl (w.heap.size + 2) rfl (z) _ _ (HP.out) (FZ.out) Tryd.underlying41 rfl (by kernel_rfl)) ?_
      try simp only [Act.put, List.setIfInBounds_toArray, List.set_cons_zero, List.set_cons_succ]
      refine wpAnyG_take 3 rfl (by kernel_rfl) (fun _ _ _ h => h) (YieldsG.pure (v := .bool b) (by rfl) (fun w9 h9 => by go_simp; rw [run_eqGuard_fv]; simp only [Result.andThen_ok, eb])) ?_
      try simp only [Act.put, List.setIfInBounds_toArray, List.set_cons_zero, List.set_cons_succ]
      refine wpAnyG_done (by kernel_rfl) (fun u hu => ?_)
      have hbu := Below.gr hb hu
      have BR := Gr.blk hu hR
      have BP := Gr.blk hu HP.out
      clear hu hb hR HP eb cn
      cases b
      · have HT : Hid (readS l = (z, true)) := Lib.hid (by rw [HS.out]; rfl)
        clear HS
        go_wp2_with (first | ((with_reducible refine here_load (d := some 31) ?_); refine wpList_load_fv rfl _ _ rfl (w.heap.size + 2) rfl (z) _ _ _ (BP) (FZ.out) Tryd.underlying41 rfl (by kernel_rfl) ?_) | ((with_reducible refine here_store ?_); refine wpList_store_blk rfl _ _ _ rfl (w.heap.size + 1) (fcs (z)) rfl rfl _ _ (BR) (by kernel_rfl) (by rfl) (fcs_one _) ?_; intro vz hLz hqz hKz))
        exact bodyPost_ret (res_cell_tmp rfl _ _ (w.heap.size + 1) _ _ _ _ rfl hLz rfl Tryd.underlying41 rfl (by kernel_rfl)) rfl ⟨by rw [HT.out]; rfl, hbu.trans (hqz _ (by omega))⟩
      · have HT : Hid (readS l = (0, false)) := Lib.hid (by rw [HS.out]; rfl)
        clear HS
        go_wp2_with (first | ((with_reducible refine here_store ?_); refine wpList_store_blk rfl _ _ _ rfl (w.heap.size + 1) _ rfl rfl _ _ (BR) (by kernel_rfl) (by rfl) (by simp [Value.oneCell']) ?_; intro vz hLz hqz hKz))
        exact bodyPost_ret (res_cell_tmp rfl _ _ (w.heap.size + 1) _ _ _ _ rfl hLz rfl Tryd.underlying41 rfl (by kernel_rfl)) rfl ⟨by rw [HT.out]; rfl, hbu.trans (hqz _ (by omega))⟩
end Go.Proofs.YtbofhoonlmikcaaDoor

end
section
namespace Go.Proofs.YtbofhoonlmikcaaDoor
open Go.RowKit Go.Lib

/-- (p + 1) / 4 -/
def eQ : Nat := 28948022309329048855892746252171976963317496166410141009864396001977208667916
end Go.Proofs.YtbofhoonlmikcaaDoor

end
section
namespace Go.Proofs.YtbofhoonlmikcaaDoor
open Go.RowKit Go.Lib

theorem prime_p : Nt.Pr pM := Nt.pr_p
theorem eRoot_is : eRoot = eQ := by decide +kernel
theorem four_eQ : 2 * (eQ + eQ) = pM + 1 := by decide +kernel
theorem root_lt_p (x : Nat) : rootR x < pM := by rw [← rootR_red]; exact mod_lt_p _
theorem sq_le {p r a : Nat} (hp : Nt.Pr p) (hle : a ≤ r) (hr : r < p) (h : r * r % p = a * a % p) : r = a ∨ r + a = p := by
  have e : (r - a) * (r + a) = r * r - a * a := by
    obtain ⟨d, rfl⟩ : ∃ d, r = a + d := ⟨r - a, by omega⟩
    rw [Nat.add_sub_cancel_left]
    have h1 : (a + d) * (a + d) = a * a + d * (a + d + a) := by
      simp only [Nat.mul_add, Nat.add_mul]
      have := Nat.mul_comm a d
      omega
    rw [h1, Nat.add_sub_cancel_left]
  have hd : p ∣ (r - a) * (r + a) := by
    rw [e]
    exact Nat.dvd_of_mod_eq_zero (Nat.sub_mod_eq_zero_of_mod_eq h)
  by_cases hz : (r + a) % p = 0
  · obtain ⟨k, hk⟩ := Nat.dvd_of_mod_eq_zero hz
    rcases k with _ | _ | k
    · left; omega
    · right; omega
    · have hk' : r + a = p * (k + 2) := hk
      have : p * 2 ≤ p * (k + 2) := Nat.mul_le_mul (Nat.le_refl _) (by omega)
      omega
  · left
    have hd2 : p ∣ r - a := (Nt.cop hp (r + a) hz).dvd_of_dvd_mul_right hd
    have := Nat.eq_zero_of_dvd_of_lt hd2 (by omega)
    omega
theorem sq_roots {p r a : Nat} (hp : Nt.Pr p) (hr : r < p) (ha : a < p) (h : r * r % p = a * a % p) : r = a ∨ r + a = p := by
  rcases Nat.le_total a r with hl | hl
  · exact sq_le hp hl hr h
  · rcases sq_le hp hl ha h.symm with h1 | h1
    · exact .inl h1.symm
    · exact .inr (by omega)
theorem pow_gen {p a e : Nat} (hp : Nt.Pr p) (he : 2 * (e + e) = p + 1) : ((a * a) ^ e % p) * ((a * a) ^ e % p) % p = a * a % p := by
  have h2 := hp.1
  rw [← Nat.mul_mod, ← Nat.pow_add, ← Nat.pow_two, ← Nat.pow_mul, he]
  have e1 : a ^ (p + 1) = a ^ (p - 1) * a ^ 2 := by rw [← Nat.pow_add]; congr 1; omega
  rw [e1, Nat.mul_mod]
  by_cases hz : a % p = 0
  · have : a ^ 2 % p = 0 := by rw [Nat.pow_two, Nat.mul_mod, hz]; simp
    rw [this]; simp
  · rw [Nt.flt hp a hz, Nat.one_mul, Nat.mod_mod]
theorem root_sq (a : Nat) : mulP (rootR (mulP a a)) (rootR (mulP a a)) = mulP a a := by
  have h := rootR_pow (mulP a a)
  rw [rootR_red, eRoot_is] at h
  rw [h]
  unfold mulP
  rw [← Nat.pow_mod]
  exact pow_gen prime_p four_eQ
theorem neg_of (r : Nat) (h : r < pM) (h0 : r ≠ 0) : negP r = pM - r := by
  unfold negP
  rw [Nat.mod_eq_of_lt h]
  exact Nat.mod_eq_of_lt (by omega)
theorem neg_sq (r : Nat) (h : r < pM) (h0 : r ≠ 0) : mulP (negP r) (negP r) = mulP r r := by
  rw [neg_of r h h0]
  obtain ⟨q, hq⟩ : ∃ q, pM = q + r := ⟨pM - r, by omega⟩
  rw [show pM - r = q by omega]
  unfold mulP
  have e : q * q + pM * r = r * r + pM * q := by
    rw [hq, Nat.add_mul, Nat.add_mul, Nat.mul_comm r q]
    omega
  have h1 : (q * q + pM * r) % pM = q * q % pM := Nat.add_mul_mod_self_left _ _ _
  have h2 : (r * r + pM * q) % pM = r * r % pM := Nat.add_mul_mod_self_left _ _ _
  rw [← h1, ← h2, e]
theorem pM_odd : pM % 2 = 1 := by decide +kernel
/-- the answer is even -/
theorem sqrt_even (x : Nat) : (sqrtS x).1 % pM % 2 = 0 := by
  unfold sqrtS
  have hr := root_lt_p x
  by_cases h1 : mulP (rootR x) (rootR x) ≠ x % pM
  · rw [if_pos h1]; rw [Nat.zero_mod]
  · rw [if_neg h1]
    by_cases h2 : rootR x % pM % 2 = 1
    · rw [if_pos h2]
      rw [rootR_red] at h2
      have h0 : rootR x ≠ 0 := by omega
      have e := neg_of _ hr h0
      have hp := pM_odd
      show negP (rootR x) % pM % 2 = 0
      rw [e, Nat.mod_eq_of_lt (show pM - rootR x < pM by omega)]
      omega
    · rw [if_neg h2]
      show rootR x % pM % 2 = 0
      omega
theorem sqrt_lt (x : Nat) : (sqrtS x).1 < 115792089237316195423570985008687907853269984665640564039457584007913129639936 := by
  unfold sqrtS
  by_cases h1 : mulP (rootR x) (rootR x) ≠ x % pM
  · rw [if_pos h1]; show 0 < _; omega
  · rw [if_neg h1]
    by_cases h2 : rootR x % pM % 2 = 1
    · rw [if_pos h2]; exact negP_lt _
    · rw [if_neg h2]; exact rootR_lt _
/-- its square is the number -/
theorem sqrt_mul (x : Nat) (h : (sqrtS x).2 = true) : mulP (sqrtS x).1 (sqrtS x).1 = x % pM := by
  unfold sqrtS at h ⊢
  by_cases h1 : mulP (rootR x) (rootR x) ≠ x % pM
  · rw [if_pos h1] at h; cases h
  · rw [if_neg h1]
    have h1' : mulP (rootR x) (rootR x) = x % pM := Classical.not_not.1 h1
    by_cases h2 : rootR x % pM % 2 = 1
    · rw [if_pos h2]
      rw [rootR_red] at h2
      show mulP (negP (rootR x)) (negP (rootR x)) = _
      rw [neg_sq _ (root_lt_p x) (by omega)]
      exact h1'
    · rw [if_neg h2]; exact h1'
/-- the square of a number has a root: that number, or its contrary -/
theorem sqrt_sq (a : Nat) : ∃ s, sqrtS (mulP a a) = (s, true) ∧ (s = a % pM ∨ s = negP a) := by
  obtain ⟨r, hr⟩ : ∃ r, r = rootR (mulP a a) := ⟨_, rfl⟩
  have hs := root_sq a
  rw [← hr] at hs
  have hl : r < pM := by rw [hr]; exact root_lt_p _
  have hx : mulP a a % pM = mulP a a := by unfold mulP; rw [Nat.mod_mod]
  obtain ⟨b, hb⟩ : ∃ b, b = a % pM := ⟨_, rfl⟩
  have hbl : b < pM := by rw [hb]; exact mod_lt_p a
  have hng : negP a = negP b := by unfold negP; rw [hb, Nat.mod_mod]
  have hrr : r = b ∨ r + b = pM := by
    refine sq_roots prime_p hl hbl ?_
    have : mulP a a = b * b % pM := by rw [hb, ← Nat.mul_mod]; rfl
    rw [← this]; exact hs
  have p0 : 0 < pM := by omega
  have hor : (r = b ∧ negP r = negP b) ∨ (r = negP b ∧ negP r = b) := by
    rcases hrr with h | h
    · left; exact ⟨h, by rw [h]⟩
    · by_cases h0 : b = 0
      · omega
      · right
        have e1 := neg_of b hbl h0
        have e2 := neg_of r hl (by omega)
        exact ⟨by omega, by omega⟩
  unfold sqrtS
  rw [← hr, hx, if_neg (by rw [hs]; exact fun h => h rfl), hng, ← hb]
  by_cases h2 : r % pM % 2 = 1
  · rw [if_pos h2]
    refine ⟨_, rfl, ?_⟩
    rcases hor with h | h
    · exact .inr h.2
    · exact .inl h.2
  · rw [if_neg h2]
    refine ⟨_, rfl, ?_⟩
    rcases hor with h | h
    · exact .inl h.1
    · exact .inr h.1
end Go.Proofs.YtbofhoonlmikcaaDoor

end
section
namespace Go.Proofs.YtbofhoonlmikcaaDoor.Cu
open Go.RowKit Go.Proofs.YtbofhoonlmikcaaDoor Go.Proofs.YtbofhoonlmikcaaDoor.Sy
set_option maxRecDepth 100000
set_option maxHeartbeats 4000000

theorem key_whole (l : List UInt8) {n : Nat} (hl : l.length = n) : Value.agg (((l.map bv).toArray.toList.drop 0).take n).toArray = .agg (l.map bv).toArray := by
  rw [List.drop_zero, List.take_of_length_le (by simp; omega)]
theorem key_size (l : List UInt8) {n : Nat} (hl : l.length = n) : 0 + n ≤ (l.map bv).toArray.size := by simp; omega
theorem key_at (l : List UInt8) {n : Nat} (hl : l.length = n) (k : Nat) (hk : k < n) : (l.map bv).toArray[k]? = some (bv (l.getD k 0)) := by
  have : k < l.length := by omega
  simp [List.getD, this]
/-- x^3 + 7 -/
def cubeN (x : Nat) : Nat := addP (mulP x (mulP x x)) 7
theorem cubeN_val (u : Fp) : cubeN u.val = (u * u * u + 7).val := by
  have e : u * (u * u) + 7 = u * u * u + 7 := by grobner
  rw [← e]
  rfl
/-- whether 32 bytes are a point's X -/
def liftB (l : List UInt8) : Bool := decide (valB l < pM) && (sqrtS (cubeN (valB l))).2
theorem sqrt_fin (x : Nat) : (sqrtS x).1 < pM := by
  unfold sqrtS
  split
  · exact Nat.pos_of_ne_zero (by decide +kernel)
  · split
    · exact mod_lt_p _
    · show rootR x < pM
      rw [← rootR_red]; exact mod_lt_p _
/-- .. and that point, Y being even -/
def liftP (l : List UInt8) : Pt := if h : liftB l = true then some (⟨valB l, by unfold liftB at h; simp at h; exact h.1⟩, ⟨(sqrtS (cubeN (valB l))).1, sqrt_fin _⟩) else none
theorem lift_no {l : List UInt8} (h : liftB l = false) : liftP l = none := by unfold liftP; rw [dif_neg (by simp [h])]
theorem lift_yes {l : List UInt8} (h : liftB l = true) : ∃ u y : Fp, u.val = valB l ∧ y.val = (sqrtS (cubeN (valB l))).1 ∧ liftP l = some (u, y) ∧ y * y = u * u * u + 7 ∧ y.val % 2 = 0 := by
  refine ⟨_, _, rfl, rfl, by unfold liftP; rw [dif_pos h], ?_, ?_⟩
  · have h2 : (sqrtS (cubeN (valB l))).2 = true := by unfold liftB at h; simp at h; exact h.2
    have hm := sqrt_mul _ h2
    refine Fin.ext ?_
    have hv : valB l < pM := by unfold liftB at h; simp at h; exact h.1
    have e := cubeN_val ⟨valB l, hv⟩
    show mulP (sqrtS (cubeN (valB l))).1 (sqrtS (cubeN (valB l))).1 = _
    rw [hm, ← e]
    exact Nat.mod_eq_of_lt (mod_lt_p _)
  · have := sqrt_even (cubeN (valB l))
    rw [Nat.mod_eq_of_lt (sqrt_fin _)] at this
    exact this
theorem read_yes {l : List UInt8} {u : Fp} (h : u.val = valB l) : readS l = (u.val, true) := by
  unfold readS
  rw [if_pos (by rw [← h]; exact u.isLt), h]
theorem read_no {l : List UInt8} (h : ¬ valB l < pM) : readS l = (0, false) := by unfold readS; rw [if_neg h]
theorem lift_in (w : World) (l : List UInt8) (hl : l.length = 32) (u : Fp) (hu : u.val = valB l) : Calls Tryd.prog 11 #[.agg (l.map bv).toArray] w (Gets w (.tuple #[ptv (liftP l), .bool (liftB l)])) := by
  have cR : ∀ w, Calls Tryd.prog 24 #[.agg (l.map bv).toArray] w (Gets w (.tuple #[fv u.val, .bool true])) := fun w => by
    have h := read_any w l hl
    rw [read_yes hu] at h
    exact h
  refine Sy.enter (args := [.agg (l.map bv).toArray]) Tryd.func11 rfl kL ?_
  refine sC ?_
  refine sM 31 (l.map bv).toArray (fun g0 => ?_)
  refine sM 43 (pcs 0 0 false) (fun g1 => ?_)
  refine sP (.bool false) ?_
  refine sA ?_
  refine sS (.agg (l.map bv).toArray) (Quiet.load 0 g0 0 32 31 31 (l.map bv).toArray _ _ rfl kR kR Tryd.underlying31 rfl kR _ (key_whole l hl) (key_size l hl)) <| sS (.tuple #[fv u.val, .bool true]) (qF 24 #[.agg (l.map bv).toArray] (cR)) <| sP (.tuple #[fv u.val, .bool true]) <| sP (fv u.val) <| sP (.bool true) ?_
  refine sM 41 (fcs 0) (fun g2 => ?_)
  refine sW 2 g2 41 (fcs 0) (fcs u.val) (wS 0 41 (fcs u.val) rfl) <| sP (.bool true) ?_
  refine sA ?_
  refine sS (fv u.val) (qL 2 g2 0 4 41 41 (fcs u.val) rfl Tryd.underlying41) ?_
  obtain ⟨z1, hz1⟩ : ∃ z : Fp, z = u * u * u + 7 := ⟨_, rfl⟩
  refine sS (fv z1.val) (qF 26 #[fv u.val] (by rw [hz1]; exact fun w => square_c w u)) ?_
  obtain ⟨r1, hr1⟩ : ∃ z : Nat, z = (sqrtS z1.val).1 := ⟨_, rfl⟩
  obtain ⟨k1, hk1⟩ : ∃ z : Bool, z = (sqrtS z1.val).2 := ⟨_, rfl⟩
  have lr1 : r1 < K4 := by rw [hr1]; exact sqrt_lt _
  refine sS (.tuple #[fv r1, .bool k1]) (qF 25 #[fv z1.val] (fun w => by rw [hr1, hk1]; exact sqrt_any w z1.val lK)) <| sP (.tuple #[fv r1, .bool k1]) <| sP (fv r1) <| sP (.bool k1) ?_
  refine sM 41 (fcs 0) (fun g3 => ?_)
  refine sW 3 g3 41 (fcs 0) (fcs r1) (wS 0 41 (fcs r1) rfl) <| sP (.bool k1) ?_
  refine sG ?_
  refine Sy.seq ?_
  refine sC ?_
  refine sP (.bool true) <| sP (.bool false) <| sP (.bool false) <| sP (.bool k1) ?_
  cases k1
  · refine sP (.bool true) <| sP (.bool true) ?_
    refine sG ?_
    refine sT ?_
    refine sC ?_
    refine sS (pv 0 0 true) (qF 27 #[] (zero_c)) <| sW 1 g1 43 (pcs 0 0 false) (pcs 0 0 true) (wS 0 43 (pcs 0 0 true) rfl) <| sP (.bool false) ?_
    refine sG ?_
    refine Sy.ret ?_
    refine Sy.then_ret ?_
    rw [show (.tuple #[ptv (liftP l), .bool (liftB l)] : Value) = .tuple #[pv 0 0 true, .bool false] from by
      have hb : liftB l = false := by unfold liftB; rw [← hu, cubeN_val, ← hz1, ← hk1]; simp
      rw [hb, lift_no hb]; rfl]
    exact Sy.ret2 (v := pv 0 0 true) (u := .bool false) rfl (.inl (Res.cell (ty' := 43) g1 1 (pcs 0 0 true) _ kR kR Tryd.underlying43 rfl kR kR)) (.inl (show _ = _ by kernel_rfl))
  · refine sP (.bool false) <| sP (.bool false) ?_
    refine sG ?_
    refine sU ?_
    refine Sy.skip ?_
    refine sB ?_
    refine sS (fv u.val) (qL 2 g2 0 4 41 41 (fcs u.val) rfl Tryd.underlying41) <| sS (fv r1) (qL 3 g3 0 4 41 41 (fcs r1) rfl Tryd.underlying41) <| sP (pv u.val r1 false) <| sW 1 g1 43 (pcs 0 0 false) (pcs u.val r1 false) (wS 0 43 (pcs u.val r1 false) rfl) <| sP (.bool true) ?_
    refine sG ?_
    refine Sy.ret ?_
    rw [show (.tuple #[ptv (liftP l), .bool (liftB l)] : Value) = .tuple #[pv u.val r1 false, .bool true] from by
      have hb : liftB l = true := by unfold liftB; rw [← hu, cubeN_val, ← hz1, ← hk1]; simp [u.isLt]
      obtain ⟨u2, y2, e1, e2, e3, _, _⟩ := lift_yes hb
      rw [hb, e3]
      unfold ptv
      simp only
      rw [e1, e2, ← hu, cubeN_val, ← hz1, ← hr1]]
    exact Sy.ret2 (v := pv u.val r1 false) (u := .bool true) rfl (.inl (Res.cell (ty' := 43) g1 1 (pcs u.val r1 false) _ kR kR Tryd.underlying43 rfl kR kR)) (.inl (show _ = _ by kernel_rfl))
theorem lift_out (w : World) (l : List UInt8) (hl : l.length = 32) (hu : ¬ valB l < pM) : Calls Tryd.prog 11 #[.agg (l.map bv).toArray] w (Gets w (.tuple #[ptv (liftP l), .bool (liftB l)])) := by
  have cR : ∀ w, Calls Tryd.prog 24 #[.agg (l.map bv).toArray] w (Gets w (.tuple #[fv (0 : Fp).val, .bool false])) := fun w => by
    have h := read_any w l hl
    rw [read_no hu] at h
    exact h
  refine Sy.enter (args := [.agg (l.map bv).toArray]) Tryd.func11 rfl kL ?_
  refine sC ?_
  refine sM 31 (l.map bv).toArray (fun g0 => ?_)
  refine sM 43 (pcs 0 0 false) (fun g1 => ?_)
  refine sP (.bool false) ?_
  refine sA ?_
  refine sS (.agg (l.map bv).toArray) (Quiet.load 0 g0 0 32 31 31 (l.map bv).toArray _ _ rfl kR kR Tryd.underlying31 rfl kR _ (key_whole l hl) (key_size l hl)) <| sS (.tuple #[fv ((0 : Fp).val), .bool false]) (qF 24 #[.agg (l.map bv).toArray] (cR)) <| sP (.tuple #[fv ((0 : Fp).val), .bool false]) <| sP (fv ((0 : Fp).val)) <| sP (.bool false) ?_
  refine sM 41 (fcs 0) (fun g2 => ?_)
  refine sW 2 g2 41 (fcs 0) (fcs ((0 : Fp).val)) (wS 0 41 (fcs ((0 : Fp).val)) rfl) <| sP (.bool false) ?_
  refine sA ?_
  refine sS (fv ((0 : Fp).val)) (qL 2 g2 0 4 41 41 (fcs ((0 : Fp).val)) rfl Tryd.underlying41) ?_
  obtain ⟨z1, hz1⟩ : ∃ z : Fp, z = (0 : Fp) * (0 : Fp) * (0 : Fp) + 7 := ⟨_, rfl⟩
  refine sS (fv z1.val) (qF 26 #[fv ((0 : Fp).val)] (by rw [hz1]; exact fun w => square_c w (0 : Fp))) ?_
  obtain ⟨r1, hr1⟩ : ∃ z : Nat, z = (sqrtS z1.val).1 := ⟨_, rfl⟩
  obtain ⟨k1, hk1⟩ : ∃ z : Bool, z = (sqrtS z1.val).2 := ⟨_, rfl⟩
  have lr1 : r1 < K4 := by rw [hr1]; exact sqrt_lt _
  refine sS (.tuple #[fv r1, .bool k1]) (qF 25 #[fv z1.val] (fun w => by rw [hr1, hk1]; exact sqrt_any w z1.val lK)) <| sP (.tuple #[fv r1, .bool k1]) <| sP (fv r1) <| sP (.bool k1) ?_
  refine sM 41 (fcs 0) (fun g3 => ?_)
  refine sW 3 g3 41 (fcs 0) (fcs r1) (wS 0 41 (fcs r1) rfl) <| sP (.bool k1) ?_
  refine sG ?_
  refine Sy.seq ?_
  refine sC ?_
  refine sP (.bool false) <| sP (.bool true) <| sP (.bool true) ?_
  refine sN ?_
  refine sN ?_
  refine sP (.bool true) ?_
  refine sG ?_
  refine sT ?_
  refine sC ?_
  refine sS (pv 0 0 true) (qF 27 #[] (zero_c)) <| sW 1 g1 43 (pcs 0 0 false) (pcs 0 0 true) (wS 0 43 (pcs 0 0 true) rfl) <| sP (.bool false) ?_
  refine sG ?_
  refine Sy.ret ?_
  refine Sy.then_ret ?_
  rw [show (.tuple #[ptv (liftP l), .bool (liftB l)] : Value) = .tuple #[pv 0 0 true, .bool false] from by
      have hb : liftB l = false := by unfold liftB; simp [hu]
      rw [hb, lift_no hb]; rfl]
  exact Sy.ret2 (v := pv 0 0 true) (u := .bool false) rfl (.inl (Res.cell (ty' := 43) g1 1 (pcs 0 0 true) _ kR kR Tryd.underlying43 rfl kR kR)) (.inl (show _ = _ by kernel_rfl))
/-- every Lift -/
theorem lift_any (w : World) (l : List UInt8) (hl : l.length = 32) : Calls Tryd.prog 11 #[.agg (l.map bv).toArray] w (Gets w (.tuple #[ptv (liftP l), .bool (liftB l)])) := by
  by_cases h : valB l < pM
  · exact lift_in w l hl ⟨valB l, h⟩ rfl
  · exact lift_out w l hl h
end Go.Proofs.YtbofhoonlmikcaaDoor.Cu

end
section
namespace Go.Proofs.YtbofhoonlmikcaaDoor.Cu
open Go.RowKit Go.Proofs.YtbofhoonlmikcaaDoor Go.Proofs.YtbofhoonlmikcaaDoor.Sy
set_option maxRecDepth 100000
set_option maxHeartbeats 4000000

/-- the digits of a number to the base 16, the highest of 64 first -/
def dg (m j : Nat) : Nat := m / 16 ^ (63 - j) % 16
def dgA (m j : Nat) : List Value := [.int .u8 ((dg m j : Nat) : Int)]
theorem dgA_len (m : Nat) : ∀ j, (dgA m j).length = 1 := fun _ => rfl
theorem byte_get (m k : Nat) (hk : k < 32) : ((bytesS m).getD k 0).toNat = m / 2 ^ (8 * (31 - k)) % 256 := by
  have h : ∀ n j, j < n → (lowB m n).getD j 0 = byteN m (n - 1 - j) := by
    intro n
    induction n with
    | zero => intro j hj; omega
    | succ n ih =>
      intro j hj
      cases j with
      | zero => rfl
      | succ j =>
        show (lowB m n).getD j 0 = _
        rw [ih j (by omega)]
        congr 1
        omega
  unfold bytesS
  rw [h 32 k hk, show 32 - 1 - k = 31 - k by omega]
  unfold byteN
  rw [UInt8.toNat_ofNat']
  omega
theorem p16 (k : Nat) : (2 : Nat) ^ (8 * k) = 16 ^ (2 * k) := by
  rw [show 8 * k = 4 * (2 * k) by omega, Nat.pow_mul]
theorem dg_hi (m k : Nat) (hk : k < 32) : ((bytesS m).getD k 0).toNat / 16 = dg m (2 * k) := by
  rw [byte_get m k hk, p16]
  unfold dg
  rw [show 63 - 2 * k = 2 * (31 - k) + 1 by omega, Nat.pow_succ, ← Nat.div_div_eq_div_mul]
  omega
theorem dg_lo (m k : Nat) (hk : k < 32) : ((bytesS m).getD k 0).toNat % 16 = dg m (2 * k + 1) := by
  rw [byte_get m k hk, p16]
  unfold dg
  rw [show 63 - (2 * k + 1) = 2 * (31 - k) by omega]
  omega
theorem exec_hi (F : Slots) (o : Oper) (t : TypeId) (x y : Operand) {yt : TypeId} (b : UInt8) (d : Nat) (ho : o.op = .binOp .shr t x y yt) (hx : evF F x = bv b) (hy : evF F y = .int .u64 4) (h : b.toNat / 16 = d) (w : World) : (execOp (evF F) o).run Tryd.prog w = .ok (.value (.int .u8 ((d : Nat) : Int))) w :=
  exec_int .shr t x y .u8 (b.toNat : Int) 4 _ ho hx hy (int_shr t .u8 .u64 _ _ _ (by decide) (by
    show Int.fdiv (b.toNat : Int) ((16 : Nat) : Int) = _
    rw [← h, Int.fdiv_eq_ediv_of_nonneg _ (by omega)]
    omega)) w
theorem and15 : ∀ n : Fin 256, IntKind.u8.wrap ((BitVec.ofInt 8 ((n.val : Nat) : Int) &&& BitVec.ofInt 8 15).toNat : Int) = ((n.val % 16 : Nat) : Int) := by decide +kernel
theorem exec_lo (F : Slots) (o : Oper) (t : TypeId) (x y : Operand) {yt : TypeId} (b : UInt8) (d : Nat) (ho : o.op = .binOp .and t x y yt) (hx : evF F x = bv b) (hy : evF F y = .int .u8 15) (h : b.toNat % 16 = d) (w : World) : (execOp (evF F) o).run Tryd.prog w = .ok (.value (.int .u8 ((d : Nat) : Int))) w :=
  exec_int .and t x y .u8 (b.toNat : Int) 15 _ ho hx hy (int_and t .u8 _ _ _ (by
    rw [← h]
    exact and15 ⟨b.toNat, b.toNat_lt⟩)) w
theorem digits_c (w : World) (x : Nat) (hx : x < K4) : Calls Tryd.prog 77 #[fv x] w (Gets w (.agg (flat (dgA (x % Sc.pM)) 64).toArray)) := by
  obtain ⟨m, hm⟩ : ∃ m, m = x % Sc.pM := ⟨_, rfl⟩
  obtain ⟨l, hl0⟩ : ∃ l, l = bytesS m := ⟨_, rfl⟩
  have hl : l.length = 32 := by rw [hl0]; exact bytesS_length m
  have cB : ∀ w, Calls Tryd.prog 18 #[fv x] w (Gets w (.agg (l.map bv).toArray)) := fun w => by rw [hl0, hm]; exact Sc.bytes_any w x hx
  rw [← hm]
  refine Sy.enter (args := [fv x]) Tryd.func77 rfl kL ?_
  refine sC ?_
  refine sM 24 (fcs x) (fun g0 => ?_)
  refine Sy.make kR 26 (flat (fun _ => [.int .u8 0]) 64).toArray ptr kF (fun g1 => ?_)
  refine sA ?_
  refine Sy.make kR 26 (flat (fun _ => [.int .u8 0]) 64).toArray ptr kF (fun g2 => ?_)
  refine sG ?_
  refine Sy.seq ?_
  refine sC ?_
  refine sS (fv x) (qL 0 g0 0 4 24 24 (fcs x) rfl Tryd.underlying24) <| sS (.agg (l.map bv).toArray) (qF 18 #[fv x] (cB)) <| sP (.int .i64 0) ?_
  refine sG ?_
  refine Sy.block ?_
  refine Sy.loopK 32 (fun k1 => [(2, .pointer (some ⟨g1, 0, none⟩)), (3, .pointer (some ⟨g2, 0, none⟩)), (7, .agg (l.map bv).toArray), (8, .int .i64 ((k1 : Nat) : Int))]) (fun k1 => [(g1, 26, (flat (fun _ => [.int .u8 0]) 64).toArray), (g2, 26, (flat (upto (2 * k1) (dgA m) [.int .u8 0]) 64).toArray)]) [false, true, true] (M := [(g1, 26, (flat (fun _ => [.int .u8 0]) 64).toArray), (g2, 26, (flat (fun _ => [.int .u8 0]) 64).toArray)]) (all_cons kR (all_cons kR (all_cons kR (all_cons kR all_nil)))) kR (bcons rfl (bcons (beq (upto_zero)) rfl)) (fun k1 hk1 => ?_)
  refine sC ?_
  obtain ⟨b1, hb1⟩ : ∃ z : Bool, z = decide (k1 < 32) := ⟨_, rfl⟩
  refine sS (.bool b1) (Quiet.pure (exec_int .lss _ _ _ .i64 _ _ _ rfl rfl rfl (int_lss _ _ _ _ _ (by rw [hb1]; exact decide_eq_decide.2 (by omega))))) ?_
  refine sG ?_
  refine Sy.seq ?_
  cases b1
  · have lb1 : ¬ (k1 < 32) := of_decide_eq_false hb1.symm
    refine sU ?_
    refine Sy.exit ?_
    refine Sy.then_exit ?_
    refine Sy.then_exit ?_
    obtain rfl : k1 = 32 := by omega
    refine Sy.in_exit ?_
    refine sB ?_
    refine sS (.agg (flat (upto (2 * 32) (dgA m) [.int .u8 0]) 64).toArray) (Quiet.load 1 g2 0 64 26 26 (flat (upto (2 * 32) (dgA m) [.int .u8 0]) 64).toArray _ _ rfl kR kR Tryd.underlying26 rfl kR _ (flat_whole (upto_len (dgA_len m) rfl _) rfl) (flat_wsize (upto_len (dgA_len m) rfl _) rfl)) ?_
    refine Sy.write kR 0 g1 26 (flat (fun _ => [.int .u8 0]) 64).toArray (flat (upto (2 * 32) (dgA m) [.int .u8 0]) 64).toArray kR (Writes.store 0 26 (flat (upto (2 * 32) (dgA m) [.int .u8 0]) 64).toArray _ _ rfl kR kR (flat_info (upto_len (dgA_len m) rfl _) kR) (flat_over (upto_len (dgA_len m) rfl _) rfl kR) (flat_one (upto_len (dgA_len m) rfl _) _ (upto_one (fun _ u hu => by rw [List.mem_singleton.1 hu]; rfl) (fun u hu => by rw [List.mem_singleton.1 hu]; rfl) _)) (flat_put (upto_len (dgA_len m) rfl _) kR)) ?_
    refine sG ?_
    refine Sy.ret ?_
    rw [show (.agg (flat (dgA m) 64).toArray : Value) = .agg (flat (upto (2 * 32) (dgA m) [.int .u8 0]) 64).toArray from congrArg Value.agg upto_all.symm]
    exact Sy.ret1 rfl (v := .agg (flat (upto (2 * 32) (dgA m) [.int .u8 0]) 64).toArray) (.inl (Res.cell (ty' := 26) g1 0 (flat (upto (2 * 32) (dgA m) [.int .u8 0]) 64).toArray _ kR kR Tryd.underlying26 rfl (flat_info (upto_len (dgA_len m) rfl _) kR) rfl))
  · have lb1 : k1 < 32 := of_decide_eq_true hb1.symm
    refine sT ?_
    refine Sy.skip ?_
    refine Sy.then_ ?_
    refine Sy.seq ?_
    refine Sy.block ?_
    refine sC ?_
    refine sP (.int .i64 ((k1 : Nat) : Int)) <| sS (bv (l.getD k1 0)) (Quiet.pure (exec_idx _ _ _ _ _ 32 k1 .i64 _ _ rfl rfl rfl Tryd.underlying30 Tryd.underlying5 rfl kF (by omega) (key_at l hl k1 (by omega)))) <| sP (.int .i64 ((k1 : Nat) : Int)) <| sP (bv (l.getD k1 0)) ?_
    refine sG ?_
    refine Sy.region ?_
    refine sP (.int .i64 ((k1 : Nat) : Int)) <| sS (.int .i64 ((2 * k1 : Nat) : Int)) (Quiet.pure (exec_int .mul _ _ _ .i64 _ _ _ rfl rfl rfl (int_mul _ _ _ _ _ ((wrap_i64 (by omega) (by omega)).trans (by omega))))) <| sP (.int .i64 ((k1 : Nat) : Int)) <| sS (.int .i64 ((2 * k1 : Nat) : Int)) (Quiet.pure (exec_int .mul _ _ _ .i64 _ _ _ rfl rfl rfl (int_mul _ _ _ _ _ ((wrap_i64 (by omega) (by omega)).trans (by omega))))) <| sS (.int .i64 (((2 * k1) + 1 : Nat) : Int)) (Quiet.pure (exec_int .add _ _ _ .i64 _ _ _ rfl rfl rfl (int_add _ _ _ _ _ ((wrap_i64 (by omega) (by omega)).trans (by omega))))) <| sP (bv (l.getD k1 0)) <| sS (.int .u8 ((dg m (2 * k1) : Nat) : Int)) (Quiet.pure (exec_hi _ _ _ _ _ (l.getD k1 0) _ rfl rfl rfl (by rw [hl0]; exact dg_hi m k1 (by omega)))) <| sP (bv (l.getD k1 0)) ?_
    refine sS (.int .u8 ((dg m (2 * k1 + 1) : Nat) : Int)) (Quiet.pure (exec_lo _ _ _ _ _ (l.getD k1 0) _ rfl rfl rfl (by rw [hl0]; exact dg_lo m k1 (by omega)))) <| sS (.pointer (some ⟨g2, 0 + (2 * k1) * 1, none⟩)) (Quiet.pure (exec_atA 26 _ _ _ g2 0 _ (2 * k1) 1 .i64 rfl rfl rfl Tryd.underlying26 kF (by omega))) ?_
    refine Sy.write kR 1 g2 26 (flat (upto (2 * k1) (dgA m) [.int .u8 0]) 64).toArray (flat (upto (2 * k1 + 1) (dgA m) [.int .u8 0]) 64).toArray kR (Writes.one (0 + (2 * k1) * 1) 5 (.int .u8 ((dg m (2 * k1) : Nat) : Int)) _ _ rfl kR kR kR rfl rfl (flat_lt1 (upto_len (dgA_len m) rfl _) (k := 2 * k1) (by omega) (by omega)) ((congrArg (Array.setIfInBounds _ · _) (show 0 + (2 * k1) * 1 = 2 * k1 by omega)).trans (upto_set1 (dgA_len m) (rfl) (by omega)))) ?_
    refine sS (.pointer (some ⟨g2, 0 + ((2 * k1) + 1) * 1, none⟩)) (Quiet.pure (exec_atA 26 _ _ _ g2 0 _ ((2 * k1) + 1) 1 .i64 rfl rfl rfl Tryd.underlying26 kF (by omega))) ?_
    refine Sy.write kR 1 g2 26 (flat (upto (2 * k1 + 1) (dgA m) [.int .u8 0]) 64).toArray (flat (upto (2 * k1 + 1 + 1) (dgA m) [.int .u8 0]) 64).toArray kR (Writes.one (0 + ((2 * k1) + 1) * 1) 5 (.int .u8 ((dg m (2 * k1 + 1) : Nat) : Int)) _ _ rfl kR kR kR rfl rfl (flat_lt1 (upto_len (dgA_len m) rfl _) (k := 2 * k1 + 1) (by omega) (by omega)) ((congrArg (Array.setIfInBounds _ · _) (show 0 + ((2 * k1) + 1) * 1 = 2 * k1 + 1 by omega)).trans (upto_set1 (dgA_len m) (rfl) (by omega)))) ?_
    refine Sy.nil ?_
    refine Sy.in_ ?_
    refine Sy.then_ ?_
    refine Sy.region ?_
    refine sS (.int .i64 ((k1 + 1 : Nat) : Int)) (Quiet.pure (exec_int .add _ _ _ .i64 _ _ _ rfl rfl rfl (int_add _ _ _ _ _ ((wrap_i64 (by omega) (by omega)).trans (by omega))))) <| sP (.int .i64 ((k1 + 1 : Nat) : Int)) ?_
    refine Sy.nil ?_
    exact Sy.againK [true, true] (M := [(g1, 26, (flat (fun _ => [.int .u8 0]) 64).toArray), (g2, 26, (flat (upto (2 * k1 + 1 + 1) (dgA m) [.int .u8 0]) 64).toArray)]) (by omega) (all_cons kR (all_cons kR (all_cons kR (all_cons kR all_nil)))) kR (bcons rfl (bcons (beq (congrArg (fun t => (flat (upto t (dgA m) [.int .u8 0]) 64).toArray) (show 2 * k1 + 1 + 1 = 2 * (k1 + 1) by omega))) rfl))
def tws (x y z : Nat) : List Value := fws x ++ (fws y ++ fws z)
def jws (a : J) : List Value := tws a.x.val a.y.val a.z.val
/-- so many times a point -/
def fewL (a : J) : Nat → J
  | 0 => ⟨0, 0, 0⟩
  | k + 1 => addJ (fewL a k) a
theorem fewL_rep {a : J} {P : Pt} (hP : Ec.On P) (h : Ec.Rep a P) : ∀ k, Ec.Rep (fewL a k) (Ec.nm finv k P)
  | 0 => rfl
  | k + 1 => addJ_rep (hP.nm fld k) hP (fewL_rep hP h k) h
def fewA (a : J) (j : Nat) : List Value := jws (fewL a j)
theorem fewA_len (a : J) : ∀ j, (fewA a j).length = 12 := fun _ => rfl
theorem few_first (a : J) : (flat (fun _ => tws 0 0 0) 16).toArray = (flat (upto 1 (fewA a) (tws 0 0 0)) 16).toArray := congrArg List.toArray (flat_congr fun j _ => by
  unfold upto
  split
  · obtain rfl : j = 0 := by omega
    rfl
  · rfl)
theorem jws_one (a : J) : ∀ u ∈ jws a, u.oneCell' = true := fun u hu => by
  unfold jws tws fws at hu
  simp [qv] at hu
  rcases hu with rfl | rfl | rfl | rfl | rfl | rfl | rfl | rfl | rfl | rfl | rfl | rfl <;> rfl
theorem few_c (w : World) (P : Pt) (x y : Nat) (i : Bool) (hP : ptv P = pv x y i) : Calls Tryd.prog 78 #[pv x y i] w (Gets w (.agg (flat (fewA (threeJ P)) 16).toArray)) := by
  obtain ⟨a, ha⟩ : ∃ a, a = threeJ P := ⟨_, rfl⟩
  have c3 : ∀ w, Calls Tryd.prog 87 #[pv x y i] w (Gets w (tv a.x.val a.y.val a.z.val)) := fun w => by
    have h := three_c w P
    rw [hP, ← ha] at h
    exact h
  rw [← ha]
  refine Sy.enter (args := [pv x y i]) Tryd.func78 rfl kL ?_
  refine sC ?_
  refine sM 43 (pcs x y i) (fun g0 => ?_)
  refine Sy.make kR 128 (flat (fun _ => tws 0 0 0) 16).toArray ptr kF (fun g1 => ?_)
  refine sA ?_
  refine Sy.make kR 128 (flat (fun _ => tws 0 0 0) 16).toArray ptr kF (fun g2 => ?_)
  refine sA ?_
  refine sS (pv x y i) (qL 0 g0 0 9 43 43 (pcs x y i) rfl Tryd.underlying43) <| sS (tv a.x.val a.y.val a.z.val) (qF 87 #[pv x y i] (c3)) ?_
  refine sM 94 (tcs 0 0 0) (fun g3 => ?_)
  refine sW 3 g3 94 (tcs 0 0 0) (tcs a.x.val a.y.val a.z.val) (wS 0 94 (tcs a.x.val a.y.val a.z.val) rfl) ?_
  refine sG ?_
  refine Sy.seq ?_
  refine sC ?_
  refine sP (.int .i64 1) ?_
  refine sG ?_
  refine Sy.block ?_
  refine Sy.loopK 15 (fun k1 => [(2, .pointer (some ⟨g1, 0, none⟩)), (3, .pointer (some ⟨g2, 0, none⟩)), (4, .pointer (some ⟨g3, 0, none⟩)), (5, .int .i64 ((k1 + 1 : Nat) : Int))]) (fun k1 => [(g1, 128, (flat (fun _ => tws 0 0 0) 16).toArray), (g2, 128, (flat (upto (k1 + 1) (fewA a) (tws 0 0 0)) 16).toArray), (g3, 94, (tcs a.x.val a.y.val a.z.val))]) [false, true, true, true] (M := [(g1, 128, (flat (fun _ => tws 0 0 0) 16).toArray), (g2, 128, (flat (fun _ => tws 0 0 0) 16).toArray), (g3, 94, (tcs a.x.val a.y.val a.z.val))]) (all_cons kR (all_cons kR (all_cons kR (all_cons kR all_nil)))) kR (bcons rfl (bcons (beq (few_first a)) (bcons rfl rfl))) (fun k1 hk1 => ?_)
  refine Sy.seq ?_
  refine sC ?_
  refine sP (.int .i64 ((k1 + 1 : Nat) : Int)) ?_
  obtain ⟨b1, hb1⟩ : ∃ z : Bool, z = decide (k1 + 1 < 16) := ⟨_, rfl⟩
  refine sS (.bool b1) (Quiet.pure (exec_int .lss _ _ _ .i64 _ _ _ rfl rfl rfl (int_lss _ _ _ _ _ (by rw [hb1]; exact decide_eq_decide.2 (by omega))))) ?_
  refine sG ?_
  cases b1
  · have lb1 : ¬ (k1 + 1 < 16) := of_decide_eq_false hb1.symm
    refine sU ?_
    refine Sy.exit ?_
    refine Sy.then_exit ?_
    refine Sy.then_exit ?_
    obtain rfl : k1 = 15 := by omega
    refine Sy.in_exit ?_
    refine sB ?_
    refine sS (.agg (flat (upto (15 + 1) (fewA a) (tws 0 0 0)) 16).toArray) (Quiet.load 1 g2 0 192 128 128 (flat (upto (15 + 1) (fewA a) (tws 0 0 0)) 16).toArray _ _ rfl kR kR Tryd.underlying128 rfl kR _ (flat_whole (upto_len (fewA_len a) rfl _) rfl) (flat_wsize (upto_len (fewA_len a) rfl _) rfl)) ?_
    refine Sy.write kR 0 g1 128 (flat (fun _ => tws 0 0 0) 16).toArray (flat (upto (15 + 1) (fewA a) (tws 0 0 0)) 16).toArray kR (Writes.store 0 128 (flat (upto (15 + 1) (fewA a) (tws 0 0 0)) 16).toArray _ _ rfl kR kR (flat_info (upto_len (fewA_len a) rfl _) kR) (flat_over (upto_len (fewA_len a) rfl _) rfl kR) (flat_one (upto_len (fewA_len a) rfl _) _ (upto_one (fun _ => jws_one _) (jws_one ⟨0, 0, 0⟩) _)) (flat_put (upto_len (fewA_len a) rfl _) kR)) ?_
    refine sG ?_
    refine Sy.ret ?_
    rw [show (.agg (flat (fewA a) 16).toArray : Value) = .agg (flat (upto (15 + 1) (fewA a) (tws 0 0 0)) 16).toArray from congrArg Value.agg upto_all.symm]
    exact Sy.ret1 rfl (v := .agg (flat (upto (15 + 1) (fewA a) (tws 0 0 0)) 16).toArray) (.inl (Res.cell (ty' := 128) g1 0 (flat (upto (15 + 1) (fewA a) (tws 0 0 0)) 16).toArray _ kR kR Tryd.underlying128 rfl (flat_info (upto_len (fewA_len a) rfl _) kR) rfl))
  · have lb1 : k1 + 1 < 16 := of_decide_eq_true hb1.symm
    refine sT ?_
    refine Sy.skip ?_
    refine Sy.then_ ?_
    refine Sy.seq ?_
    refine Sy.block ?_
    refine Sy.regionD (fun j => j == 8) kR ?_
    refine sZ 0 rfl (.int .i64 ((k1 + 1 : Nat) : Int)) <| sZ 1 rfl (.int .i64 ((k1 + 1 : Nat) : Int)) <| sD 2 rfl (.int .i64 (((k1 + 1) - 1 : Nat) : Int)) (Quiet.pure (exec_int .sub _ _ _ .i64 _ _ _ rfl rfl rfl (int_sub _ _ _ _ _ ((wrap_i64 (by omega) (by omega)).trans (by omega))))) <| sD 3 rfl (.pointer (some ⟨g2, 0 + ((k1 + 1) - 1) * 12, none⟩)) (Quiet.pure (exec_atA 128 _ _ _ g2 0 _ ((k1 + 1) - 1) 12 .i64 rfl rfl rfl Tryd.underlying128 kF (by omega))) <| sD 4 rfl (tv ((fewL a ((k1 + 1) - 1)).x.val) ((fewL a ((k1 + 1) - 1)).y.val) ((fewL a ((k1 + 1) - 1)).z.val)) (Quiet.load 1 g2 (0 + ((k1 + 1) - 1) * 12) 12 128 94 (flat (upto (k1 + 1) (fewA a) (tws 0 0 0)) 16).toArray _ _ rfl kR kR Tryd.underlying94 rfl kR _ ((flat_load (upto_len (fewA_len a) rfl _) (k := (k1 + 1) - 1) (by omega) (by omega)).trans ((congrArg (fun l : List Value => Value.agg l.toArray) (upto_lt (by omega))).trans kR)) (flat_fit (upto_len (fewA_len a) rfl _) (k := (k1 + 1) - 1) (by omega) (by omega))) <| sD 5 rfl (tv a.x.val a.y.val a.z.val) (qL 2 g3 0 12 94 94 (tcs a.x.val a.y.val a.z.val) rfl Tryd.underlying94) ?_
    obtain ⟨j1, hj1⟩ : ∃ z : J, z = addJ (fewL a ((k1 + 1) - 1)) a := ⟨_, rfl⟩
    refine sD 6 rfl (tv j1.x.val j1.y.val j1.z.val) (qF 56 #[tv ((fewL a ((k1 + 1) - 1)).x.val) ((fewL a ((k1 + 1) - 1)).y.val) ((fewL a ((k1 + 1) - 1)).z.val), tv a.x.val a.y.val a.z.val] (fun w => by rw [hj1]; exact addJ_c w (fewL a ((k1 + 1) - 1)) a)) <| sD 7 rfl (.pointer (some ⟨g2, 0 + (k1 + 1) * 12, none⟩)) (Quiet.pure (exec_atA 128 _ _ _ g2 0 _ (k1 + 1) 12 .i64 rfl rfl rfl Tryd.underlying128 kF (by omega))) ?_
    refine Sy.writeD 8 rfl kR (by rfl) kR 1 g2 128 (flat (upto (k1 + 1) (fewA a) (tws 0 0 0)) 16).toArray (flat (upto (k1 + 1 + 1) (fewA a) (tws 0 0 0)) 16).toArray kR (Writes.store (0 + (k1 + 1) * 12) 94 (tcs j1.x.val j1.y.val j1.z.val) _ _ rfl kR kR kR (flat_fit (upto_len (fewA_len a) rfl _) (k := k1 + 1) (by omega) (by omega)) kR (upto_set (v := (tcs j1.x.val j1.y.val j1.z.val).toList) (fewA_len a) rfl (by rw [hj1]; rfl) (by omega) (by omega))) ?_
    refine sE ?_
    refine Sy.in_ ?_
    refine Sy.then_ ?_
    refine Sy.region ?_
    refine sP (.int .i64 ((k1 + 1 : Nat) : Int)) <| sS (.int .i64 (((k1 + 1) + 1 : Nat) : Int)) (Quiet.pure (exec_int .add _ _ _ .i64 _ _ _ rfl rfl rfl (int_add _ _ _ _ _ ((wrap_i64 (by omega) (by omega)).trans (by omega))))) <| sP (.int .i64 (((k1 + 1) + 1 : Nat) : Int)) ?_
    refine Sy.nil ?_
    exact Sy.againK [true, true, true] (M := [(g1, 128, (flat (fun _ => tws 0 0 0) 16).toArray), (g2, 128, (flat (upto (k1 + 1 + 1) (fewA a) (tws 0 0 0)) 16).toArray), (g3, 94, (tcs a.x.val a.y.val a.z.val))]) (by omega) (all_cons kR (all_cons kR (all_cons kR (all_cons kR all_nil)))) kR (bcons rfl (bcons rfl (bcons rfl rfl)))
end Go.Proofs.YtbofhoonlmikcaaDoor.Cu

end
section
namespace Go.Proofs.YtbofhoonlmikcaaDoor.Cu
open Go.RowKit Go.Proofs.YtbofhoonlmikcaaDoor Go.Proofs.YtbofhoonlmikcaaDoor.Sy
set_option maxRecDepth 100000
set_option maxHeartbeats 4000000

/-- a factor and a point, as they came in -/
structure Trm where
  k : Nat
  x : Nat
  y : Nat
  i : Bool
def trcs (k x y : Nat) (i : Bool) : Array Value := (fws k ++ (fws x ++ (fws y ++ [Value.bool i]))).toArray
def trv (k x y : Nat) (i : Bool) : Value := .agg (trcs k x y i)
def Trm.cells (t : Trm) : List Value := fws t.k ++ (fws t.x ++ (fws t.y ++ [Value.bool t.i]))
def Trm.ok (t : Trm) : Prop := t.k < K4 ∧ t.x < K4 ∧ t.y < K4
def Trm.pt (t : Trm) : Pt := dec t.x t.y t.i
/-- the factor modulo n -/
def Trm.kn (t : Trm) : Nat := t.k % Sc.pM
/-- its digits, and what they can make of the point -/
def tmA (t : Trm) : List Value := flat (dgA t.kn) 64 ++ flat (fewA (threeJ t.pt)) 16
def tmcs (t : Trm) : Array Value := (tmA t).toArray
theorem tmA_len (T : Nat → Trm) : ∀ j, (tmA (T j)).length = 256 := fun _ => by
  unfold tmA
  rw [List.length_append, flat_len (dgA_len _), flat_len (fewA_len _)]
def zt : List Value := List.replicate 64 (.int .u8 0) ++ List.replicate 192 (.int .u64 0)
noncomputable def infTm : TypeInfo := (Tryd.prog.info? 131).getD default
theorem info_tm : Tryd.prog.info? 131 = some infTm := by kernel_rfl
theorem dg_lt (m j : Nat) : dg m j < 16 := Nat.mod_lt _ (by decide)
theorem few_p (w : World) (P : Pt) : Calls Tryd.prog 78 #[ptv P] w (Gets w (.agg (flat (fewA (threeJ P)) 16).toArray)) := by
  rcases P with _ | ⟨u, v⟩
  · exact few_c w none 0 0 true rfl
  · exact few_c w (some (u, v)) u.val v.val false rfl
def dbN (a : J) : Nat → J
  | 0 => a
  | j + 1 => dblJ (dbN a j)
/-- the terms' digits in place i, added one behind the other -/
def inJ (T : Nat → Trm) (i : Nat) (a : J) : Nat → J
  | 0 => a
  | j + 1 => addJ (inJ T i a j) (fewL (threeJ (T j).pt) (dg (T j).kn i))
/-- digit by digit -/
def muJ (T : Nat → Trm) (n : Nat) : Nat → J
  | 0 => ⟨0, 0, 0⟩
  | i + 1 => inJ T i (dbN (muJ T n i) 4) n
theorem at_c (w : World) (g off i : Nat) (t : Trm) (hg : g < w.heap.size) (hi : i < 64) (hr : w.rangeAt g off (tmA t)) : Calls Tryd.prog 79 #[.pointer (some ⟨g, off, none⟩), .int .i64 ((i : Nat) : Int)] w (Gets w (tv (fewL (threeJ t.pt) (dg t.kn i)).x.val (fewL (threeJ t.pt) (dg t.kn i)).y.val (fewL (threeJ t.pt) (dg t.kn i)).z.val)) := by
  have hd := dg_lt t.kn i
  refine Sy.enter (args := [.pointer (some ⟨g, off, none⟩), .int .i64 ((i : Nat) : Int)]) Tryd.func79 rfl kL ?_
  refine sC ?_
  refine sM 94 (tcs 0 0 0) (fun g0 => ?_)
  refine sH (fun j => j == 11) ?_
  refine sZ 0 rfl (.pointer (some ⟨g, off, none⟩)) <| sZ 1 rfl (.pointer (some ⟨g, off, none⟩)) <| sZ 2 rfl (.int .i64 ((i : Nat) : Int)) <| sZ 3 rfl (.pointer (some ⟨g, off, none⟩)) <| sZ 4 rfl (.pointer (some ⟨g, off, none⟩)) <| sD 5 rfl (.pointer (some ⟨g, off + i * 1, none⟩)) (Quiet.pure (exec_atA 26 _ _ _ g off _ i 1 .i64 rfl rfl rfl Tryd.underlying26 kF (by omega))) <| sD 6 rfl (.int .u8 ((dg t.kn i : Nat) : Int)) (Quiet.thereOne g (off + i * 1) 5 _ _ rfl kR hg _ (range_flat (range_left hr) (dgA_len t.kn) hi 0 _ rfl) Tryd.underlying5 rfl) <| sZ 7 rfl (.pointer (some ⟨g, off, none⟩)) ?_
  refine sZ 8 rfl (.pointer (some ⟨g, off + 64, none⟩)) <| sD 9 rfl (.pointer (some ⟨g, off + 64 + (dg t.kn i) * 12, none⟩)) (Quiet.pure (exec_atA 128 _ _ _ g (off + 64) _ (dg t.kn i) 12 .u8 rfl rfl rfl Tryd.underlying128 kF (by omega))) <| sD 10 rfl (tv ((fewL (threeJ t.pt) (dg t.kn i)).x.val) ((fewL (threeJ t.pt) (dg t.kn i)).y.val) ((fewL (threeJ t.pt) (dg t.kn i)).z.val)) (Quiet.there g (off + 64 + (dg t.kn i) * 12) 12 94 (fewA (threeJ t.pt) (dg t.kn i)) _ _ rfl kR hg (range_flat (range_right hr (flat_len (dgA_len t.kn) 64)) (fewA_len _) hd) Tryd.underlying94 rfl kR rfl _ kR) <| sX 11 rfl 0 g0 94 (tcs 0 0 0) (tcs ((fewL (threeJ t.pt) (dg t.kn i)).x.val) ((fewL (threeJ t.pt) (dg t.kn i)).y.val) ((fewL (threeJ t.pt) (dg t.kn i)).z.val)) (wS 0 94 (tcs ((fewL (threeJ t.pt) (dg t.kn i)).x.val) ((fewL (threeJ t.pt) (dg t.kn i)).y.val) ((fewL (threeJ t.pt) (dg t.kn i)).z.val)) rfl) ?_
  refine sI ?_
  refine Sy.ret ?_
  exact rC (v := tv ((fewL (threeJ t.pt) (dg t.kn i)).x.val) ((fewL (threeJ t.pt) (dg t.kn i)).y.val) ((fewL (threeJ t.pt) (dg t.kn i)).z.val)) 94 g0 0 (tcs ((fewL (threeJ t.pt) (dg t.kn i)).x.val) ((fewL (threeJ t.pt) (dg t.kn i)).y.val) ((fewL (threeJ t.pt) (dg t.kn i)).z.val)) rfl Tryd.underlying94
theorem multi_c (w : World) (b o n c : Nat) (T : Nat → Trm) (hb : b < w.heap.size) (hn : n ≤ 32) (hok : ∀ j, (T j).ok) (hT : ∀ j, j < n → w.rangeAt b (o + j * 13) (T j).cells) : Calls Tryd.prog 57 #[.slice (some ⟨b, o, none⟩) n c] w (Gets w (tv (muJ T n 64).x.val (muJ T n 64).y.val (muJ T n 64).z.val)) := by
  refine Sy.enter (args := [.slice (some ⟨b, o, none⟩) n c]) Tryd.func57 rfl kL ?_
  refine sC ?_
  refine sM 94 (tcs 0 0 0) (fun g0 => ?_)
  refine sA ?_
  refine sP (.slice (some ⟨b, o, none⟩) n c) <| sP (.int .i64 ((n : Nat) : Int)) ?_
  refine Sy.make kR 131 (flat (fun _ => zt) n).toArray (fun g => .slice (some ⟨g, 0, none⟩) n n) (Makes.slice 126 131 _ (.agg zt.toArray) 256 1600 _ _ .i64 .i64 n zt rfl rfl rfl Tryd.underlying126 info_tm kR kR (by decide) kR kR kR (by omega) (by omega)) (fun g1 => ?_)
  refine sP (.slice (some ⟨g1, 0, none⟩) n n) ?_
  refine sG ?_
  refine Sy.seq ?_
  refine sC ?_
  refine sP (.slice (some ⟨b, o, none⟩) n c) <| sP (.int .i64 ((n : Nat) : Int)) <| sP (.int .i64 0) ?_
  refine sG ?_
  refine Sy.block ?_
  refine Sy.loopK n (fun k1 => [(2, .pointer (some ⟨g0, 0, none⟩)), (3, .slice (some ⟨g1, 0, none⟩) n n), (12, .slice (some ⟨b, o, none⟩) n c), (13, .int .i64 ((n : Nat) : Int)), (14, .int .i64 ((k1 : Nat) : Int))]) (fun k1 => [(g0, 94, (tcs 0 0 0)), (g1, 131, (flat (upto k1 (fun j => tmA (T j)) zt) n).toArray)]) [true, true] (M := [(g0, 94, (tcs 0 0 0)), (g1, 131, (flat (fun _ => zt) n).toArray)]) (all_cons kR (all_cons kR (all_cons kR (all_cons kR (all_cons kR all_nil))))) kR (bcons rfl (bcons (beq (upto_zero)) rfl)) (fun k1 hk1 => ?_)
  refine sC ?_
  obtain ⟨b1, hb1⟩ : ∃ z : Bool, z = decide (k1 < n) := ⟨_, rfl⟩
  refine sS (.bool b1) (Quiet.pure (exec_int .lss _ _ _ .i64 _ _ _ rfl rfl rfl (int_lss _ _ _ _ _ (by rw [hb1]; exact decide_eq_decide.2 (by omega))))) ?_
  refine sG ?_
  refine Sy.seq ?_
  cases b1
  · have lb1 : ¬ (k1 < n) := of_decide_eq_false hb1.symm
    refine sU ?_
    refine Sy.exit ?_
    refine Sy.then_exit ?_
    refine Sy.then_exit ?_
    obtain rfl : n = k1 := by omega
    refine Sy.in_exit ?_
    refine sB ?_
    refine sM 94 (tcs 0 0 0) (fun g2 => ?_)
    refine sG ?_
    refine Sy.seq ?_
    refine sC ?_
    refine sP (.int .i64 0) ?_
    refine sG ?_
    refine Sy.block ?_
    refine Sy.loopK 64 (fun k2 => [(2, .pointer (some ⟨g0, 0, none⟩)), (3, .slice (some ⟨g1, 0, none⟩) n n), (6, .pointer (some ⟨g2, 0, none⟩)), (31, .int .i64 ((k2 : Nat) : Int))]) (fun k2 => [(g0, 94, (tcs 0 0 0)), (g1, 131, (flat ((fun j => tmA (T j))) n).toArray), (g2, 94, (tcs ((muJ T n k2).x.val) ((muJ T n k2).y.val) ((muJ T n k2).z.val)))]) [true, true, true] (M := [(g0, 94, (tcs 0 0 0)), (g1, 131, (flat (upto n (fun j => tmA (T j)) zt) n).toArray), (g2, 94, (tcs 0 0 0))]) (all_cons kR (all_cons kR (all_cons kR (all_cons kR all_nil)))) kR (bcons rfl (bcons (beq (upto_all)) (bcons rfl rfl))) (fun k2 hk2 => ?_)
    refine sC ?_
    obtain ⟨b2, hb2⟩ : ∃ z : Bool, z = decide (k2 < 64) := ⟨_, rfl⟩
    refine sS (.bool b2) (Quiet.pure (exec_int .lss _ _ _ .i64 _ _ _ rfl rfl rfl (int_lss _ _ _ _ _ (by rw [hb2]; exact decide_eq_decide.2 (by omega))))) ?_
    refine sG ?_
    refine Sy.seq ?_
    cases b2
    · have lb2 : ¬ (k2 < 64) := of_decide_eq_false hb2.symm
      refine sU ?_
      refine Sy.exit ?_
      refine Sy.then_exit ?_
      refine Sy.then_exit ?_
      obtain rfl : k2 = 64 := by omega
      refine Sy.in_exit ?_
      refine sB ?_
      refine sS (tv ((muJ T n 64).x.val) ((muJ T n 64).y.val) ((muJ T n 64).z.val)) (qL 2 g2 0 12 94 94 (tcs ((muJ T n 64).x.val) ((muJ T n 64).y.val) ((muJ T n 64).z.val)) rfl Tryd.underlying94) <| sW 0 g0 94 (tcs 0 0 0) (tcs ((muJ T n 64).x.val) ((muJ T n 64).y.val) ((muJ T n 64).z.val)) (wS 0 94 (tcs ((muJ T n 64).x.val) ((muJ T n 64).y.val) ((muJ T n 64).z.val)) rfl) ?_
      refine sG ?_
      refine Sy.ret ?_
      exact rC (v := tv ((muJ T n 64).x.val) ((muJ T n 64).y.val) ((muJ T n 64).z.val)) 94 g0 0 (tcs ((muJ T n 64).x.val) ((muJ T n 64).y.val) ((muJ T n 64).z.val)) rfl Tryd.underlying94
    · have lb2 : k2 < 64 := of_decide_eq_true hb2.symm
      refine sT ?_
      refine Sy.skip ?_
      refine Sy.then_ ?_
      refine Sy.seq ?_
      refine Sy.block ?_
      refine sC ?_
      refine sP (.int .i64 ((k2 : Nat) : Int)) <| sP (.int .i64 ((k2 : Nat) : Int)) ?_
      refine sG ?_
      refine Sy.seq ?_
      refine sC ?_
      refine sP (.int .i64 0) ?_
      refine sG ?_
      refine Sy.block ?_
      refine Sy.loopK 4 (fun k3 => [(2, .pointer (some ⟨g0, 0, none⟩)), (3, .slice (some ⟨g1, 0, none⟩) n n), (6, .pointer (some ⟨g2, 0, none⟩)), (7, .int .i64 ((k2 : Nat) : Int)), (31, .int .i64 ((k2 : Nat) : Int)), (34, .int .i64 ((k3 : Nat) : Int))]) (fun k3 => [(g0, 94, (tcs 0 0 0)), (g1, 131, (flat ((fun j => tmA (T j))) n).toArray), (g2, 94, (tcs ((dbN (muJ T n k2) k3).x.val) ((dbN (muJ T n k2) k3).y.val) ((dbN (muJ T n k2) k3).z.val)))]) [true, true, true] (M := [(g0, 94, (tcs 0 0 0)), (g1, 131, (flat ((fun j => tmA (T j))) n).toArray), (g2, 94, (tcs ((muJ T n k2).x.val) ((muJ T n k2).y.val) ((muJ T n k2).z.val)))]) (all_cons kR (all_cons kR (all_cons kR (all_cons kR (all_cons kR (all_cons kR all_nil)))))) kR (bcons rfl (bcons rfl (bcons rfl rfl))) (fun k3 hk3 => ?_)
      refine sC ?_
      obtain ⟨b3, hb3⟩ : ∃ z : Bool, z = decide (k3 < 4) := ⟨_, rfl⟩
      refine sS (.bool b3) (Quiet.pure (exec_int .lss _ _ _ .i64 _ _ _ rfl rfl rfl (int_lss _ _ _ _ _ (by rw [hb3]; exact decide_eq_decide.2 (by omega))))) ?_
      refine sG ?_
      refine Sy.seq ?_
      cases b3
      · have lb3 : ¬ (k3 < 4) := of_decide_eq_false hb3.symm
        refine sU ?_
        refine Sy.exit ?_
        refine Sy.then_exit ?_
        refine Sy.then_exit ?_
        obtain rfl : k3 = 4 := by omega
        refine Sy.in_exit ?_
        refine sB ?_
        refine sP (.slice (some ⟨g1, 0, none⟩) n n) <| sP (.int .i64 ((n : Nat) : Int)) <| sP (.int .i64 0) ?_
        refine sG ?_
        refine Sy.block ?_
        refine Sy.loopK n (fun k4 => [(2, .pointer (some ⟨g0, 0, none⟩)), (3, .slice (some ⟨g1, 0, none⟩) n n), (6, .pointer (some ⟨g2, 0, none⟩)), (7, .int .i64 ((k2 : Nat) : Int)), (31, .int .i64 ((k2 : Nat) : Int)), (40, .int .i64 ((n : Nat) : Int)), (41, .int .i64 ((k4 : Nat) : Int))]) (fun k4 => [(g0, 94, (tcs 0 0 0)), (g1, 131, (flat ((fun j => tmA (T j))) n).toArray), (g2, 94, (tcs ((inJ T k2 (dbN (muJ T n k2) 4) k4).x.val) ((inJ T k2 (dbN (muJ T n k2) 4) k4).y.val) ((inJ T k2 (dbN (muJ T n k2) 4) k4).z.val)))]) [true, true, true] (M := [(g0, 94, (tcs 0 0 0)), (g1, 131, (flat ((fun j => tmA (T j))) n).toArray), (g2, 94, (tcs ((dbN (muJ T n k2) 4).x.val) ((dbN (muJ T n k2) 4).y.val) ((dbN (muJ T n k2) 4).z.val)))]) (all_cons kR (all_cons kR (all_cons kR (all_cons kR (all_cons kR (all_cons kR (all_cons kR all_nil))))))) kR (bcons rfl (bcons rfl (bcons rfl rfl))) (fun k4 hk4 => ?_)
        refine sC ?_
        obtain ⟨b4, hb4⟩ : ∃ z : Bool, z = decide (k4 < n) := ⟨_, rfl⟩
        refine sS (.bool b4) (Quiet.pure (exec_int .lss _ _ _ .i64 _ _ _ rfl rfl rfl (int_lss _ _ _ _ _ (by rw [hb4]; exact decide_eq_decide.2 (by omega))))) ?_
        refine sG ?_
        refine Sy.seq ?_
        cases b4
        · have lb4 : ¬ (k4 < n) := of_decide_eq_false hb4.symm
          refine sU ?_
          refine Sy.exit ?_
          refine Sy.then_exit ?_
          refine Sy.then_exit ?_
          obtain rfl : n = k4 := by omega
          refine Sy.in_exit ?_
          refine Sy.in_ ?_
          refine Sy.then_ ?_
          refine Sy.region ?_
          refine sS (.int .i64 ((k2 + 1 : Nat) : Int)) (Quiet.pure (exec_int .add _ _ _ .i64 _ _ _ rfl rfl rfl (int_add _ _ _ _ _ ((wrap_i64 (by omega) (by omega)).trans (by omega))))) <| sP (.int .i64 ((k2 + 1 : Nat) : Int)) ?_
          refine Sy.nil ?_
          exact Sy.againK [true, true, true] (M := [(g0, 94, (tcs 0 0 0)), (g1, 131, (flat ((fun j => tmA (T j))) n).toArray), (g2, 94, (tcs ((inJ T k2 (dbN (muJ T n k2) 4) n).x.val) ((inJ T k2 (dbN (muJ T n k2) 4) n).y.val) ((inJ T k2 (dbN (muJ T n k2) 4) n).z.val)))]) (by omega) (all_cons kR (all_cons kR (all_cons kR (all_cons kR all_nil)))) kR (bcons rfl (bcons rfl (bcons rfl rfl)))
        · have lb4 : k4 < n := of_decide_eq_true hb4.symm
          refine sT ?_
          refine Sy.skip ?_
          refine Sy.then_ ?_
          refine Sy.seq ?_
          refine Sy.block ?_
          refine sC ?_
          refine sP (.int .i64 ((k4 : Nat) : Int)) <| sP (.int .i64 ((k4 : Nat) : Int)) ?_
          refine sG ?_
          refine Sy.regionD (fun j => j == 7) kR ?_
          refine sD 0 rfl (tv ((inJ T k2 (dbN (muJ T n k2) 4) k4).x.val) ((inJ T k2 (dbN (muJ T n k2) 4) k4).y.val) ((inJ T k2 (dbN (muJ T n k2) 4) k4).z.val)) (qL 2 g2 0 12 94 94 (tcs ((inJ T k2 (dbN (muJ T n k2) 4) k4).x.val) ((inJ T k2 (dbN (muJ T n k2) 4) k4).y.val) ((inJ T k2 (dbN (muJ T n k2) 4) k4).z.val)) rfl Tryd.underlying94) <| sZ 1 rfl (.slice (some ⟨g1, 0, none⟩) n n) <| sZ 2 rfl (.int .i64 ((k4 : Nat) : Int)) <| sD 3 rfl (.pointer (some ⟨g1, 0 + k4 * 256, none⟩)) (Quiet.pure (exec_at 126 _ _ _ g1 0 n n k4 256 .i64 rfl rfl rfl Tryd.underlying126 kF (by omega))) <| sZ 4 rfl (.int .i64 ((k2 : Nat) : Int)) <| sD 5 rfl (tv ((fewL (threeJ (T k4).pt) (dg (T k4).kn k2)).x.val) ((fewL (threeJ (T k4).pt) (dg (T k4).kn k2)).y.val) ((fewL (threeJ (T k4).pt) (dg (T k4).kn k2)).z.val)) (Quiet.callS 79 #[.pointer (some ⟨g1, 0 + k4 * 256, none⟩), .int .i64 ((k2 : Nat) : Int)] kF (fun w hw => at_c w g1 (0 + k4 * 256) k2 (T k4) (hw.get (i := 1) rfl).lt (by omega) (blk_range (hw.get (i := 1) rfl) (flat_at (tmA_len T) (k := k4) (by omega) (by omega))))) ?_
          obtain ⟨j1, hj1⟩ : ∃ z : J, z = addJ (inJ T k2 (dbN (muJ T n k2) 4) k4) (fewL (threeJ (T k4).pt) (dg (T k4).kn k2)) := ⟨_, rfl⟩
          refine sD 6 rfl (tv j1.x.val j1.y.val j1.z.val) (qF 56 #[tv ((inJ T k2 (dbN (muJ T n k2) 4) k4).x.val) ((inJ T k2 (dbN (muJ T n k2) 4) k4).y.val) ((inJ T k2 (dbN (muJ T n k2) 4) k4).z.val), tv ((fewL (threeJ (T k4).pt) (dg (T k4).kn k2)).x.val) ((fewL (threeJ (T k4).pt) (dg (T k4).kn k2)).y.val) ((fewL (threeJ (T k4).pt) (dg (T k4).kn k2)).z.val)] (fun w => by rw [hj1]; exact addJ_c w (inJ T k2 (dbN (muJ T n k2) 4) k4) (fewL (threeJ (T k4).pt) (dg (T k4).kn k2)))) <| sX 7 rfl 2 g2 94 (tcs ((inJ T k2 (dbN (muJ T n k2) 4) k4).x.val) ((inJ T k2 (dbN (muJ T n k2) 4) k4).y.val) ((inJ T k2 (dbN (muJ T n k2) 4) k4).z.val)) (tcs j1.x.val j1.y.val j1.z.val) (wS 0 94 (tcs j1.x.val j1.y.val j1.z.val) rfl) ?_
          refine sE ?_
          refine Sy.in_ ?_
          refine Sy.then_ ?_
          refine Sy.region ?_
          refine sS (.int .i64 ((k4 + 1 : Nat) : Int)) (Quiet.pure (exec_int .add _ _ _ .i64 _ _ _ rfl rfl rfl (int_add _ _ _ _ _ ((wrap_i64 (by omega) (by omega)).trans (by omega))))) <| sP (.int .i64 ((k4 + 1 : Nat) : Int)) ?_
          refine Sy.nil ?_
          exact Sy.againK [true, true, true] (M := [(g0, 94, (tcs 0 0 0)), (g1, 131, (flat ((fun j => tmA (T j))) n).toArray), (g2, 94, (tcs j1.x.val j1.y.val j1.z.val))]) (by omega) (all_cons kR (all_cons kR (all_cons kR (all_cons kR (all_cons kR (all_cons kR (all_cons kR all_nil))))))) kR (bcons rfl (bcons rfl (bcons (beq (by rw [hj1]; rfl)) rfl)))
      · have lb3 : k3 < 4 := of_decide_eq_true hb3.symm
        refine sT ?_
        refine Sy.skip ?_
        refine Sy.then_ ?_
        refine Sy.seq ?_
        refine Sy.block ?_
        refine Sy.region ?_
        refine sS (tv ((dbN (muJ T n k2) k3).x.val) ((dbN (muJ T n k2) k3).y.val) ((dbN (muJ T n k2) k3).z.val)) (qL 2 g2 0 12 94 94 (tcs ((dbN (muJ T n k2) k3).x.val) ((dbN (muJ T n k2) k3).y.val) ((dbN (muJ T n k2) k3).z.val)) rfl Tryd.underlying94) ?_
        obtain ⟨j2, hj2⟩ : ∃ z : J, z = dblJ (dbN (muJ T n k2) k3) := ⟨_, rfl⟩
        refine sS (tv j2.x.val j2.y.val j2.z.val) (qF 76 #[tv ((dbN (muJ T n k2) k3).x.val) ((dbN (muJ T n k2) k3).y.val) ((dbN (muJ T n k2) k3).z.val)] (fun w => by rw [hj2]; exact double_c w (dbN (muJ T n k2) k3))) <| sW 2 g2 94 (tcs ((dbN (muJ T n k2) k3).x.val) ((dbN (muJ T n k2) k3).y.val) ((dbN (muJ T n k2) k3).z.val)) (tcs j2.x.val j2.y.val j2.z.val) (wS 0 94 (tcs j2.x.val j2.y.val j2.z.val) rfl) ?_
        refine Sy.nil ?_
        refine Sy.in_ ?_
        refine Sy.then_ ?_
        refine Sy.region ?_
        refine sS (.int .i64 ((k3 + 1 : Nat) : Int)) (Quiet.pure (exec_int .add _ _ _ .i64 _ _ _ rfl rfl rfl (int_add _ _ _ _ _ ((wrap_i64 (by omega) (by omega)).trans (by omega))))) <| sP (.int .i64 ((k3 + 1 : Nat) : Int)) ?_
        refine Sy.nil ?_
        exact Sy.againK [true, true, true] (M := [(g0, 94, (tcs 0 0 0)), (g1, 131, (flat ((fun j => tmA (T j))) n).toArray), (g2, 94, (tcs j2.x.val j2.y.val j2.z.val))]) (by omega) (all_cons kR (all_cons kR (all_cons kR (all_cons kR (all_cons kR (all_cons kR all_nil)))))) kR (bcons rfl (bcons rfl (bcons (beq (by rw [hj2]; rfl)) rfl)))
  · have lb1 : k1 < n := of_decide_eq_true hb1.symm
    refine sT ?_
    refine Sy.skip ?_
    refine Sy.then_ ?_
    refine Sy.seq ?_
    refine Sy.block ?_
    refine sC ?_
    refine sP (.int .i64 ((k1 : Nat) : Int)) <| sS (.pointer (some ⟨b, o + k1 * 13, none⟩)) (Quiet.pure (exec_at 68 _ _ _ b o n c k1 13 .i64 rfl rfl rfl Tryd.underlying68 kF (by omega))) <| sS (trv ((T k1).k) ((T k1).x) ((T k1).y) ((T k1).i)) (Quiet.there b (o + k1 * 13) 13 67 (T k1).cells _ _ rfl kR hb (hT k1 (by omega)) Tryd.underlying67 rfl kR rfl _ kR) ?_
    refine sM 67 (trcs 0 0 0 false) (fun g3 => ?_)
    refine sP (.int .i64 ((k1 : Nat) : Int)) <| sW 2 g3 67 (trcs 0 0 0 false) (trcs ((T k1).k) ((T k1).x) ((T k1).y) ((T k1).i)) (wS 0 67 (trcs ((T k1).k) ((T k1).x) ((T k1).y) ((T k1).i)) rfl) ?_
    refine sG ?_
    refine Sy.regionD (fun j => j == 11) kR ?_
    refine sZ 0 rfl (.slice (some ⟨g1, 0, none⟩) n n) <| sZ 1 rfl (.int .i64 ((k1 : Nat) : Int)) <| sZ 2 rfl (.pointer (some ⟨g3, 0, none⟩)) <| sD 3 rfl (fv ((T k1).k)) (qL 2 g3 0 4 67 24 (trcs ((T k1).k) ((T k1).x) ((T k1).y) ((T k1).i)) rfl Tryd.underlying24) <| sD 4 rfl (.agg (flat ((dgA (T k1).kn)) 64).toArray) (qF 77 #[fv ((T k1).k)] (fun w => digits_c w (T k1).k (hok k1).1)) <| sZ 5 rfl (.pointer (some ⟨g3, 4, none⟩)) <| sD 6 rfl (pv ((T k1).x) ((T k1).y) ((T k1).i)) (qL 2 g3 4 9 67 43 (trcs ((T k1).k) ((T k1).x) ((T k1).y) ((T k1).i)) rfl Tryd.underlying43) <| sD 7 rfl (ptv (T k1).pt) (qF 31 #[pv ((T k1).x) ((T k1).y) ((T k1).i)] (fun w => right_c w (T k1).x (T k1).y (T k1).i (hok k1).2.1 (hok k1).2.2)) ?_
    refine sD 8 rfl (.agg (flat ((fewA (threeJ (T k1).pt))) 16).toArray) (qF 78 #[ptv (T k1).pt] (fun w => few_p w (T k1).pt)) <| sZ 9 rfl (.agg (tmcs (T k1))) <| sD 10 rfl (.pointer (some ⟨g1, 0 + k1 * 256, none⟩)) (Quiet.pure (exec_at 126 _ _ _ g1 0 n n k1 256 .i64 rfl rfl rfl Tryd.underlying126 kF (by omega))) <| sX 11 rfl 1 g1 131 (flat (upto k1 (fun j => tmA (T j)) zt) n).toArray (flat (upto (k1 + 1) (fun j => tmA (T j)) zt) n).toArray (Writes.store (0 + k1 * 256) 131 (tmcs (T k1)) _ _ rfl kR kR kR (flat_fit (upto_len (tmA_len T) rfl _) (k := k1) (by omega) (by omega)) kR (upto_set (v := (tmcs (T k1)).toList) (tmA_len T) rfl (rfl) (by omega) (by omega))) ?_
    refine sE ?_
    refine Sy.in_ ?_
    refine Sy.then_ ?_
    refine Sy.region ?_
    refine sS (.int .i64 ((k1 + 1 : Nat) : Int)) (Quiet.pure (exec_int .add _ _ _ .i64 _ _ _ rfl rfl rfl (int_add _ _ _ _ _ ((wrap_i64 (by omega) (by omega)).trans (by omega))))) <| sP (.int .i64 ((k1 + 1 : Nat) : Int)) ?_
    refine Sy.nil ?_
    exact Sy.againK [true, true, false] (M := [(g0, 94, (tcs 0 0 0)), (g1, 131, (flat (upto (k1 + 1) (fun j => tmA (T j)) zt) n).toArray)]) (by omega) (all_cons kR (all_cons kR (all_cons kR (all_cons kR (all_cons kR all_nil))))) kR (bcons rfl (bcons rfl rfl))
end Go.Proofs.YtbofhoonlmikcaaDoor.Cu

end
section
namespace Go.Proofs.YtbofhoonlmikcaaDoor.Ec
variable {n : Nat} [NeZero n] {inv : Fin n → Fin n} {α : Type}

/-- the sum of a list's points, one behind the other, from a point on -/
def sumF (inv : Fin n → Fin n) (f : α → Pt n) (s : Pt n) : List α → Pt n
  | [] => s
  | x :: l => sumF inv f (add inv s (f x)) l
/-- .. from nothing on -/
def sumL (inv : Fin n → Fin n) (f : α → Pt n) (l : List α) : Pt n := sumF inv f none l
theorem On.sumF (H : Fld n inv) {f : α → Pt n} : ∀ (l : List α) {s : Pt n}, On s → (∀ x ∈ l, On (f x)) → On (Ec.sumF inv f s l)
  | [], _, hs, _ => hs
  | x :: l, _, hs, hf => On.sumF H l (On.add H hs (hf x (List.mem_cons_self ..))) fun y hy => hf y (List.mem_cons_of_mem _ hy)
theorem sumF_start (H : Fld n inv) {f : α → Pt n} : ∀ (l : List α) {s t : Pt n}, On s → On t → (∀ x ∈ l, On (f x)) → sumF inv f (add inv s t) l = add inv s (sumF inv f t l)
  | [], _, _, _, _, _ => rfl
  | x :: l, s, t, hs, ht, hf => by
    have hx := hf x (List.mem_cons_self ..)
    show sumF inv f (add inv (add inv s t) (f x)) l = add inv s (sumF inv f (add inv t (f x)) l)
    rw [assoc H hs ht hx]
    exact sumF_start H l hs (On.add H ht hx) fun y hy => hf y (List.mem_cons_of_mem _ hy)
theorem sumF_is (H : Fld n inv) {f : α → Pt n} (l : List α) {s : Pt n} (hs : On s) (hf : ∀ x ∈ l, On (f x)) : sumF inv f s l = add inv s (sumL inv f l) := by
  have := sumF_start H l hs (show On none from trivial) hf
  rwa [add_zero] at this
theorem On.sumL (H : Fld n inv) {f : α → Pt n} (l : List α) (hf : ∀ x ∈ l, On (f x)) : On (Ec.sumL inv f l) := On.sumF H l trivial hf
theorem sumL_cons (H : Fld n inv) {f : α → Pt n} (x : α) (l : List α) (hf : ∀ y ∈ x :: l, On (f y)) : sumL inv f (x :: l) = add inv (f x) (sumL inv f l) := by
  show sumF inv f (add inv none (f x)) l = _
  rw [zero_add]
  exact sumF_is H l (hf x (List.mem_cons_self ..)) fun y hy => hf y (List.mem_cons_of_mem _ hy)
theorem sumL_append (H : Fld n inv) {f : α → Pt n} : ∀ (l m : List α), (∀ x ∈ l ++ m, On (f x)) → sumL inv f (l ++ m) = add inv (sumL inv f l) (sumL inv f m)
  | [], m, _ => (zero_add _).symm
  | x :: l, m, h => by
    have h1 : ∀ y ∈ l ++ m, On (f y) := fun y hy => h y (List.mem_cons_of_mem _ hy)
    have h2 : ∀ y ∈ x :: l, On (f y) := fun y hy => h y (by rcases List.mem_cons.1 hy with rfl | hy; exact List.mem_cons_self ..; exact List.mem_cons_of_mem _ (List.mem_append_left _ hy))
    rw [List.cons_append, sumL_cons H x (l ++ m) (fun y hy => h y (by rw [List.cons_append]; exact hy)), sumL_append H l m h1, sumL_cons H x l h2,
      assoc H (h x (List.mem_cons_self ..)) (On.sumL H l fun y hy => h1 y (List.mem_append_left _ hy)) (On.sumL H m fun y hy => h1 y (List.mem_append_right _ hy))]
/-- sums of sums, of multiples -/
theorem sumL_add (H : Fld n inv) {f g : α → Pt n} : ∀ (l : List α), (∀ x ∈ l, On (f x)) → (∀ x ∈ l, On (g x)) → sumL inv (fun x => add inv (f x) (g x)) l = add inv (sumL inv f l) (sumL inv g l)
  | [], _, _ => rfl
  | x :: l, hf, hg => by
    have f1 := hf x (List.mem_cons_self ..)
    have g1 := hg x (List.mem_cons_self ..)
    have hf' : ∀ y ∈ l, On (f y) := fun y hy => hf y (List.mem_cons_of_mem _ hy)
    have hg' : ∀ y ∈ l, On (g y) := fun y hy => hg y (List.mem_cons_of_mem _ hy)
    rw [sumL_cons H x l (fun y hy => On.add H (hf y hy) (hg y hy)), sumL_cons H x l hf, sumL_cons H x l hg, sumL_add H l hf' hg']
    exact add4 H f1 g1 (On.sumL H l hf') (On.sumL H l hg')
theorem sumL_nm (H : Fld n inv) {f : α → Pt n} (k : Nat) : ∀ (l : List α), (∀ x ∈ l, On (f x)) → sumL inv (fun x => nm inv k (f x)) l = nm inv k (sumL inv f l)
  | [], _ => (nm_none k).symm
  | x :: l, hf => by
    have f1 := hf x (List.mem_cons_self ..)
    have hf' : ∀ y ∈ l, On (f y) := fun y hy => hf y (List.mem_cons_of_mem _ hy)
    rw [sumL_cons H x l (fun y hy => On.nm H (hf y hy) k), sumL_cons H x l hf, sumL_nm H k l hf', nm_sum H f1 (On.sumL H l hf')]
theorem sumL_congr (H : Fld n inv) {f g : α → Pt n} : ∀ (l : List α), (∀ x ∈ l, On (f x)) → (∀ x ∈ l, f x = g x) → sumL inv f l = sumL inv g l
  | [], _, _ => rfl
  | x :: l, hf, he => by
    have hg : ∀ y ∈ x :: l, On (g y) := fun y hy => he y hy ▸ hf y hy
    rw [sumL_cons H x l hf, sumL_cons H x l hg, he x (List.mem_cons_self ..), sumL_congr H l (fun y hy => hf y (List.mem_cons_of_mem _ hy)) fun y hy => he y (List.mem_cons_of_mem _ hy)]
/-- a digit more: K: the numbers, of which all but the last i digits to the base 16 are taken -/
theorem horner (H : Fld n inv) {p : α → Pt n} (k : α → Nat) (q : Nat) (l : List α) (hp : ∀ x ∈ l, On (p x)) :
    add inv (nm inv 16 (sumL inv (fun x => nm inv (k x / (16 * q)) (p x)) l)) (sumL inv (fun x => nm inv (k x / q % 16) (p x)) l) = sumL inv (fun x => nm inv (k x / q) (p x)) l := by
  rw [← sumL_nm H 16 l fun x hx => On.nm H (hp x hx) _, ← sumL_add H l (fun x hx => On.nm H (On.nm H (hp x hx) _) _) fun x hx => On.nm H (hp x hx) _]
  refine sumL_congr H l (fun x hx => On.add H (On.nm H (On.nm H (hp x hx) _) _) (On.nm H (hp x hx) _)) fun x hx => ?_
  rw [← nm_mul H (hp x hx), ← nm_add H (hp x hx)]
  congr 1
  rw [Nat.mul_comm 16 q, ← Nat.div_div_eq_div_mul]
  omega
end Go.Proofs.YtbofhoonlmikcaaDoor.Ec

end
section
namespace Go.Proofs.YtbofhoonlmikcaaDoor.Cu
open Go.RowKit Go.Proofs.YtbofhoonlmikcaaDoor Go.Proofs.YtbofhoonlmikcaaDoor.Sy

theorem sumF_snoc {α : Type} (f : α → Pt) : ∀ (l : List α) (s : Pt) (x : α), Ec.sumF finv f s (l ++ [x]) = Ec.add finv (Ec.sumF finv f s l) (f x)
  | [], _, _ => rfl
  | y :: l, s, x => sumF_snoc f l (Ec.add finv s (f y)) x
theorem sumL_none {α : Type} (f : α → Pt) : ∀ (l : List α), (∀ x ∈ l, f x = none) → Ec.sumL finv f l = none
  | [], _ => rfl
  | x :: l, h => by
    show Ec.sumF finv f (Ec.add finv none (f x)) l = none
    rw [h x (List.mem_cons_self ..), Ec.add_zero]
    exact sumL_none f l fun y hy => h y (List.mem_cons_of_mem _ hy)
theorem sumL_map {α β : Type} (f : β → Pt) (g : α → β) (l : List α) : Ec.sumL finv f (l.map g) = Ec.sumL finv (fun x => f (g x)) l := by
  have h : ∀ (l : List α) (s : Pt), Ec.sumF finv f s (l.map g) = Ec.sumF finv (fun x => f (g x)) s l := by
    intro l
    induction l with
    | nil => intro _; rfl
    | cons x l ih => intro s; exact ih _
  exact h l none

theorem dbN_rep {a : J} {P : Pt} (hP : Ec.On P) (h : Ec.Rep a P) : ∀ j, Ec.Rep (dbN a j) (Ec.nm finv (2 ^ j) P)
  | 0 => by rw [Nat.pow_zero, Ec.nm_one]; exact h
  | j + 1 => by
    rw [show 2 ^ (j + 1) = 2 ^ j + 2 ^ j by omega, Ec.nm_add fld hP]
    exact dblJ_rep (hP.nm fld _) (dbN_rep hP h j)
theorem Trm.on (t : Trm) : Ec.On t.pt := dec_on t.x t.y t.i
theorem inJ_rep (T : Nat → Trm) (i : Nat) {a : J} {s : Pt} (hs : Ec.On s) (h : Ec.Rep a s) : ∀ j, Ec.Rep (inJ T i a j) (Ec.sumF finv (fun t => Ec.nm finv (dg (T t).kn i) (T t).pt) s (List.range j))
  | 0 => h
  | j + 1 => by
    rw [List.range_succ, sumF_snoc]
    exact addJ_rep (Ec.On.sumF fld _ hs fun x _ => (T x).on.nm fld _) ((T j).on.nm fld _) (inJ_rep T i hs h j) (fewL_rep (T j).on (threeJ_rep _) _)
theorem kn_lt (t : Trm) : t.kn < 16 ^ 64 := Nat.lt_trans (Nat.mod_lt _ (by decide)) (by decide)
/-- the terms' digits up to place i -/
theorem muJ_rep (T : Nat → Trm) (n : Nat) : ∀ i, i ≤ 64 → Ec.Rep (muJ T n i) (Ec.sumL finv (fun t => Ec.nm finv ((T t).kn / 16 ^ (64 - i)) (T t).pt) (List.range n))
  | 0, _ => by
    rw [sumL_none _ _ fun x _ => by rw [Nat.sub_zero, Nat.div_eq_of_lt (kn_lt (T x))]; rfl]
    rfl
  | i + 1, hi => by
    have hS : Ec.On (Ec.sumL finv (fun t => Ec.nm finv ((T t).kn / 16 ^ (64 - i)) (T t).pt) (List.range n)) := Ec.On.sumL fld _ fun x _ => (T x).on.nm fld _
    have h1 := dbN_rep hS (muJ_rep T n i (by omega)) 4
    have h2 := inJ_rep T i (hS.nm fld _) h1 n
    rw [Ec.sumF_is fld _ (hS.nm fld _) fun x _ => (T x).on.nm fld _] at h2
    have e1 : 16 ^ (64 - i) = 16 * 16 ^ (63 - i) := by rw [show 64 - i = (63 - i) + 1 by omega, Nat.pow_succ, Nat.mul_comm]
    have h3 := Ec.horner fld (p := fun t => (T t).pt) (fun t => (T t).kn) (16 ^ (63 - i)) (List.range n) fun x _ => (T x).on
    rw [show 64 - (i + 1) = 63 - i by omega, ← h3, ← e1]
    exact h2
theorem multi_rep (T : Nat → Trm) (n : Nat) : Ec.Rep (muJ T n 64) (Ec.sumL finv (fun t => Ec.nm finv (T t).kn (T t).pt) (List.range n)) := by
  have h := muJ_rep T n 64 (Nat.le_refl _)
  simpa using h

/-- chunk by chunk, of 32 terms -/
def szC (n c : Nat) : Nat := min 32 (n - c * 32)
def chJ (T : Nat → Trm) (n : Nat) (s : J) (c : Nat) : J := addJ s (muJ (fun j => T (c * 32 + j)) (szC n c) 64)
/-- the chunks that a list names, one behind the other -/
def chL (T : Nat → Trm) (n : Nat) (l : List Nat) : J := l.foldl (chJ T n) ⟨0, 0, 0⟩
theorem chL_snoc (T : Nat → Trm) (n : Nat) (l : List Nat) (c : Nat) : chL T n (l ++ [c]) = chJ T n (chL T n l) c := by simp [chL, List.foldl_append]
theorem chL_rep (T : Nat → Trm) (n : Nat) : ∀ c, Ec.Rep (chL T n (List.range c)) (Ec.sumL finv (fun t => Ec.nm finv (T t).kn (T t).pt) (List.range (min n (c * 32))))
  | 0 => by rw [Nat.zero_mul, Nat.min_zero]; rfl
  | c + 1 => by
    have hon : ∀ l, Ec.On (Ec.sumL finv (fun t => Ec.nm finv (T t).kn (T t).pt) l) := fun l => Ec.On.sumL fld _ fun x _ => (T x).on.nm fld _
    have h1 := chL_rep T n c
    have h2 := multi_rep (fun j => T (c * 32 + j)) (szC n c)
    have h3 := addJ_rep (hon _) (Ec.On.sumL fld _ fun x _ => (T (c * 32 + x)).on.nm fld _) h1 h2
    rw [List.range_succ, chL_snoc]
    show Ec.Rep (addJ _ _) _
    have e : min n ((c + 1) * 32) = min n (c * 32) + szC n c := by unfold szC; omega
    rcases Nat.lt_or_ge (c * 32) n with hlt | hge
    · rw [e, List.range_add, Ec.sumL_append fld _ _ fun x _ => (T x).on.nm fld _, sumL_map]
      rw [show min n (c * 32) = c * 32 by omega] at h3 ⊢
      exact h3
    · have ez : szC n c = 0 := by unfold szC; omega
      rw [e, ez, Nat.add_zero]
      rw [ez] at h3
      have e0 : ∀ f : Nat → Pt, Ec.sumL finv f (List.range 0) = none := fun _ => rfl
      rw [e0, Ec.add_zero] at h3
      exact h3
/-- all -/
theorem chL_all (T : Nat → Trm) (n : Nat) : Ec.Rep (chL T n (List.range ((n + 31) / 32))) (Ec.sumL finv (fun t => Ec.nm finv (T t).kn (T t).pt) (List.range n)) := by
  have h := chL_rep T n ((n + 31) / 32)
  rwa [show min n ((n + 31) / 32 * 32) = n by omega] at h
end Go.Proofs.YtbofhoonlmikcaaDoor.Cu

end
section
namespace Go.Proofs.YtbofhoonlmikcaaDoor.Sy
open Go.RowKit Go.Proofs.YtbofhoonlmikcaaDoor

/-- the mark of a range over a function for the deferred calls of its rounds -/
abbrev mark (D : Nat) : Deferred := { target := .collected D, args := #[] }
theorem St.refix {w0 : Base} {w : World} {L : Blocks} (h : St w0 w L) (ds : List Deferred) (fe : Fence) (ro : Nat) : St ⟨w0.world, w, ds, fe, ro⟩ w L := ⟨h.below, h.blk, h.apart, Nat.le_refl _, fun _ _ _ h _ => h⟩
theorem St.back {w0 : Base} {W w : World} {L L' : Blocks} (h0 : St w0 W L) {ds : List Deferred} {fe : Fence} {ro : Nat} (h : St ⟨w0.world, W, ds, fe, ro⟩ w L') (ds' : List Deferred) (fe' : Fence) (ro' : Nat) : St ⟨w0.world, w0.fz, ds', fe', ro'⟩ w L' :=
  ⟨h.below, h.blk, h.apart, Nat.le_trans h0.size h.size, fun k o hk ho hc => h.non k o hk (h0.non k o hk ho hc) hc⟩
theorem St.keeps {w0 : Base} {W w : World} {L L' : Blocks} (h0 : St w0 W L) {ds : List Deferred} {fe : Fence} {ro : Nat} (h : St ⟨w0.world, W, ds, fe, ro⟩ w L') {B : Nat} (hB : w0.world.heap.size ≤ B) : KeepsFrom B W w := ⟨h.size, fun k o hk ho hc => h.non k o (Nat.le_trans hB hk) ho hc⟩
theorem St.between {w0 : Base} {W w : World} {L L' : Blocks} (h0 : St w0 W L) {ds : List Deferred} {fe : Fence} {ro : Nat} (h : St ⟨w0.world, W, ds, fe, ro⟩ w L') : Below w0.world.heap.size W w :=
  ⟨h.below.os.trans h0.below.os.symm, h.below.tape.trans h0.below.tape.symm, h.below.output.trans h0.below.output.symm, h.size, fun k hk => (h.below.block k hk).trans (h0.below.block k hk).symm⟩
theorem St.own {w0 : Base} {X Y : World} {L : Blocks} {B : Nat} {row : Option Nat} (h : St w0 X L) (hB : w0.fz.heap.size ≤ B) (hB2 : w0.world.heap.size ≤ B) (hg : X.grownBy Y row) (hr : ∀ r, row = some r → B ≤ r ∧ ∃ o : Obj, X.heap[r]? = some o ∧ o.isCells = false) : St w0 Y L := by
  refine ⟨?_, fun g t cs hm => ⟨(h.blk g t cs hm).1, (h.blk g t cs hm).2.grown hg (fun e => ?_)⟩, h.apart, Nat.le_trans h.size hg.size, fun k o hk ho hc => ?_⟩
  · refine h.below.trans ⟨hg.os, hg.tape, hg.output, hg.size, fun k hk => hg.block k (Nat.lt_of_lt_of_le hk h.below.size) (fun e => ?_)⟩
    have := (hr k e.symm).1
    omega
  · obtain ⟨o, ho, hc⟩ := (hr g e.symm).2
    have hb := (h.blk g t cs hm).2
    unfold Blk at hb
    rw [hb] at ho
    cases ho
    cases hc
  · have h1 := h.non k o hk ho hc
    have hlt := (Array.getElem?_eq_some_iff.1 ho).1
    exact (hg.block k (Array.getElem?_eq_some_iff.1 h1).1 (fun e => by have := (hr k e.symm).1; omega)).trans h1

/-- what a round has to keep for the iterator: all below n₀, and these blocks -/
def KpL (n₀ : Nat) (l : Blocks) (W W' : World) : Prop := Below n₀ W W' ∧ ∀ p ∈ l, Blk W p.1 p.2.1 p.2.2 → Blk W' p.1 p.2.1 p.2.2
theorem KpL.trans {n₀ : Nat} {l : Blocks} {A B C : World} (h : KpL n₀ l A B) (k : KpL n₀ l B C) : KpL n₀ l A C := ⟨h.1.trans k.1, fun p hp hc => k.2 p hp (h.2 p hp hc)⟩
theorem KpL.put {n₀ : Nat} {l : Blocks} {W : World} {k : Nat} {o o' : Obj} (hk : n₀ ≤ k) (ho : W.heap[k]? = some o) (hc : o.isCells = false) : KpL n₀ l W (W.putObj k o') := by
  have hg := grownBy_putObj' W k o'
  refine ⟨⟨hg.os, hg.tape, hg.output, hg.size, fun j hj => World.putObj_heap_other (by omega)⟩, fun p _ hp => ?_⟩
  have hne : p.1 ≠ k := by
    rintro rfl
    unfold Blk at hp
    rw [hp] at ho
    cases ho
    cases hc
  exact (World.putObj_heap_other hne).trans hp
/-- the slots at a round's head -/
def roundF (F : Slots) (ps : Array Tmp) (vs : Array Value) : Slots := (ps.toList.zip vs.toList).foldl (fun F x => (x.1, x.2) :: F) F
theorem Fr.round {ds : List Deferred} {n : Nat} : ∀ (l : List (Tmp × Value)) {T : Array Value} {F : Slots}, (∀ x ∈ l, x.1 < n) → Fr ds { tmps := T, defers := ds } n F → Fr ds { tmps := l.foldl (fun t x => t.setIfInBounds x.1 x.2) T, defers := ds } n (l.foldl (fun F x => (x.1, x.2) :: F) F)
  | [], _, _, _, h => h
  | x :: l, T, F, hl, h => by
    have h2 := h.put (d := some x.1) (decide_eq_true (hl x (List.mem_cons_self ..))) x.2
    exact Fr.round l (fun y hy => hl y (List.mem_cons_of_mem _ hy)) h2

section
variable {P : Program} {w0 fz0 : World} {n : Nat} {Q : Exit → Act → World → Prop} {F : Slots} {L : Blocks}
/-- where a round of loop l stands -/
abbrev rb (w0 fz : World) (l : Nat) : Base := ⟨w0, fz, [], Fence.wide.inRound l, 7⟩
/-- .. and what stands behind the loop -/
abbrev ab (w0 fz : World) (D : Nat) : Base := ⟨w0, fz, [mark D], Fence.wide, 9⟩
/-- how a round may be left: on to the next one, or out of the function -/
def BP {α : Type} (w0 fz : World) (l : Nat) (HI : List α → Prop) (LL XR : List α → Blocks) (HX : List α → Prop) (pre : List α) : Exit → Act → World → Prop
  | .normal, _, w => HI pre ∧ St (rb w0 fz l) w (LL pre)
  | .ret, _, w => HX pre ∧ St (rb w0 fz l) w (XR pre)
  | _, _, _ => False
/-- how the loop variables are laid -/
def AP (w0 fz : World) (l n na : Nat) (FA : List Nat → Slots) (LP : Blocks) (LA : List Nat → Blocks) : Exit → Act → World → Prop
  | .normal, a, w => ∃ gs, gs.length = na ∧ Fr [] a n (FA gs) ∧ St (rb w0 fz l) w (LP ++ LA gs)
  | _, _, _ => False
theorem rangeF {α : Type} {g : Operand} {ps : Array Tmp} {assign body : Code} (gf : Nat) (lb : Array Value) (hgi : inF F g = true) (hg : evF F g = .func (.func gf) #[] lb) (eg : ∀ args w, (callFunc gf args).run P w = .ok (.enter gf args) w)
    (encs : α → Array Value) (kl : Blocks) (S Sp : List α → Prop) (N : Nat) (hps : ∀ x, (encs x).size = ps.size) (hpn : ∀ p ∈ ps.toList, p < n)
    (G : List Nat) (HI : List α → Prop) (hI0 : HI []) (LL XR : List α → Blocks) (HX : List α → Prop) (m : List Bool) (h0 : sel L m = LL []) (hG : ∀ pre, (LL pre).map (·.1) = G)
    (hseq : ∀ w, St ⟨w0, fz0, [], Fence.wide, 9⟩ w L → ∃ wk, Below wk.heap.size wk w ∧ SeqStopsK Fence.wide 8 P gf lb encs (KpL w0.heap.size kl) S Sp N wk)
    (hkl : ∀ p ∈ kl, ∀ pre, p ∈ LL pre)
    (na : Nat) (FA : α → List Nat → Slots) (LA : α → List Nat → Blocks) (hLA : ∀ x gs, gs.length = na → (LA x gs).map (·.1) = gs)
    (hassign : ∀ l fz pre x, wpC P (rb w0 fz l) n (AP w0 fz l n na (FA x) (LL pre) (LA x)) (roundF F ps (encs x)) (LL pre) assign)
    (hbody : ∀ l fz pre x gs, gs.length = na → pre.length < N → HI pre → wpC P (rb w0 fz l) n (BP w0 fz l HI LL XR HX (pre ++ [x])) (FA x gs) (LL pre ++ LA x gs) body)
    (hdone : ∀ D fz xs, S xs → HI xs → w0.heap.size ≤ D → fz.heap[D]? = some (.deferred (some [])) → X (ab w0 fz D) n Q F (LL xs) .normal)
    (hstop : ∀ D fz pre, Sp pre → HX pre → w0.heap.size ≤ D → fz.heap[D]? = some (.deferred (some [])) → X (ab w0 fz D) n Q F (XR pre) .ret) :
    wpC P ⟨w0, fz0, [], Fence.wide, 9⟩ n Q F L (.rangeFunc g ps assign body) := by
  intro a w ha hw
  obtain ⟨wk, hbk, hsq⟩ := hseq w hw
  have hsz : fz0.heap.size ≤ w.heap.size := hw.size
  have hsz0 : w0.heap.size ≤ w.heap.size := hw.below.size
  have hz : St ⟨w0, fz0, [], Fence.wide, 9⟩ w (LL []) := h0 ▸ hw.less (sel_sub L m)
  have had : a.defers = [] := ha.1
  -- what a round hands on pays the iterator
  have hK : ∀ {W W' : World} {L1 : Blocks} {pre pre' : List α} {l : Nat}, St ⟨w0, fz0, [], Fence.wide, 9⟩ W (LL pre) → St (rb w0 W l) W' L1 → (LL pre').Sublist L1 → KpL w0.heap.size kl W W' := fun {W W' L1 pre pre' l} h1 h2 hs =>
    ⟨h1.between h2, fun p hp _ => by
      exact (h2.blk _ _ _ (hs.subset (hkl p hp pre'))).2⟩
  refine wpIn_rangeFunc_ownH (F := Fence.wide) (n := 9) rfl (by omega) (gf := gf) (lb := lb) ((ha.eval hgi).trans hg) trivial eg (encs := encs) (Kp := KpL w0.heap.size kl) (S := S) (Sp := Sp) (N := N) (w0 := wk) hsq KpL.trans
    (fun W l o o' hl ho hc _ => KpL.put (by omega) ho hc) hbk hps
    (fun pre W => HI pre ∧ St ⟨w0, fz0, [], Fence.wide, 9⟩ W (LL pre)) (fun c pre W => c = .ret ∧ HX pre ∧ St ⟨w0, fz0, [], Fence.wide, 9⟩ W (XR pre))
    (fun pre X Y row hs hg hr => ⟨hs.1, St.own hs.2 hsz hsz0 hg hr⟩) (fun c pre X Y row hs hg hr => ⟨hs.1, hs.2.1, St.own hs.2.2 hsz hsz0 hg hr⟩) ⟨hI0, hz⟩
    (fun x a' W => ∃ gs, gs.length = na ∧ Fr [] a' n (FA x gs) ∧ (∀ e ∈ LA x gs, w0.heap.size ≤ e.1 ∧ Blk W e.1 e.2.1 e.2.2) ∧ (G ++ gs).Nodup)
    (fun x a' _ X Y row hs hg hr => ?_) ?_ ?_ ?_ ?_
  · obtain ⟨gs, hl0, h1, h2, h3⟩ := hs
    refine ⟨gs, hl0, h1, fun e he => ⟨(h2 e he).1, (h2 e he).2.grown hg (fun q => ?_)⟩, h3⟩
    obtain ⟨o, ho, hc⟩ := (hr e.1 q.symm).2
    have hb := (h2 e he).2
    unfold Blk at hb
    rw [hb] at ho
    cases ho
    cases hc
  · -- the loop variables
    intro l pre x W K hI0' hk
    obtain ⟨hH, hI⟩ := hI0'
    have hfr : Fr [] { tmps := (ps.zip (encs x)).foldl (fun t (p, v) => t.setIfInBounds p v) a.tmps, defers := [] } n (roundF F ps (encs x)) := by
      have h1 : Fr [] { tmps := a.tmps, defers := [] } n F := ⟨rfl, ha.2.1, ha.2.2⟩
      have h2 := Fr.round (ps.toList.zip (encs x).toList) (fun y hy => hpn y.1 (List.of_mem_zip hy).1) h1
      have e : (ps.zip (encs x)).foldl (fun t (p, v) => t.setIfInBounds p v) a.tmps = (ps.toList.zip (encs x).toList).foldl (fun t x => t.setIfInBounds x.1 x.2) a.tmps := by
        rw [← Array.foldl_toList, Array.toList_zip]
      rw [e]
      exact h2
    refine wpIn_mono (hassign l W pre x _ W hfr (hI.refix _ _ _)) fun e a' W' hq => ?_
    cases e with
    | normal =>
      obtain ⟨gs, hl0, h1, h2⟩ := hq
      have hsub : (LL pre).Sublist (LL pre ++ LA x gs) := List.sublist_append_left _ _
      refine hk a' W' (hI.keeps h2 hsz0) (hK hI h2 hsub) ⟨hH, (hI.back h2 _ _ _).less hsub⟩ ⟨gs, hl0, h1, fun e he => h2.blk e.1 e.2.1 e.2.2 (List.mem_append_right _ he), ?_⟩
      have := h2.apart
      rwa [List.map_append, hG, hLA _ _ hl0] at this
    | _ => exact hq.elim
  · -- the body
    intro l pre x a' W hl _ hI0' ⟨gs, hl0, h1, h2, h3⟩ hlen
    obtain ⟨hH, hI⟩ := hI0'
    have hst : St (rb w0 W l) W (LL pre ++ LA x gs) := by
      refine ⟨hI.below, fun g t cs hm => ?_, ?_, Nat.le_refl _, fun _ _ _ h _ => h⟩
      · rcases List.mem_append.1 hm with hm | hm
        · exact hI.blk g t cs hm
        · exact h2 (g, t, cs) hm
      · rw [List.map_append, hG, hLA _ _ hl0]
        exact h3
    refine wpIn_mono (hbody l W pre x gs hl0 hlen hH a' W h1 hst) fun e a3 W3 hq => ?_
    cases e with
    | normal => exact ⟨hI.keeps hq.2 hsz0, hK hI hq.2 (List.Sublist.refl _), hq.1, hI.back hq.2 _ _ _⟩
    | ret => exact ⟨hI.keeps hq.2 hsz0, rfl, hq.1, hI.back hq.2 _ _ _⟩
    | _ => exact hq.elim
  · intro D xs W hD hS hI hd
    exact hdone D W xs hS hI.1 (Nat.le_trans hsz0 hD) hd _ W ⟨by simp [had], ha.2.1, ha.2.2⟩ (hI.2.refix _ _ _)
  · rintro D c pre W hD hS ⟨rfl, hx, hI⟩ hd
    exact wpIn_ret (hstop D W pre hS hx (Nat.le_trans hsz0 hD) hd _ W ⟨by simp [had], ha.2.1, ha.2.2⟩ (hI.refix _ _ _))

/-- a round's end -/
theorem bpN {α : Type} {l : Nat} {HI : List α → Prop} {LL XR : List α → Blocks} {HX : List α → Prop} {pre : List α} (m : List Bool) {M : Blocks} (hL : sel L m = M) (hM : M = LL pre) (hi : HI pre) : X (rb w0 fz0 l) n (BP w0 fz0 l HI LL XR HX pre) F L .normal := fun _ _ _ hw => by
  subst hL
  refine ⟨hi, ?_⟩
  rw [← hM]
  exact hw.less (sel_sub L m)
/-- the loop variables are laid -/
theorem apN {l na : Nat} {FA : List Nat → Slots} {LP : Blocks} {LA : List Nat → Blocks} (gs : List Nat) (hg : gs.length = na) (hF : ∀ p ∈ FA gs, F.lookup p.1 = some p.2) (m : List Bool) (hL : sel L m = LP ++ LA gs) : X (rb w0 fz0 l) n (AP w0 fz0 l n na FA LP LA) F L .normal := fun _ _ ha hw => ⟨gs, hg, ha.all hF, hL ▸ hw.less (sel_sub L m)⟩

/-! ## Calls that make memory -/
/-- it gives a value, and blocks of its own, as R says -/
def GetsN (w : World) (R : Value → Blocks → Prop) (e : Ending) (w' : World) : Prop := ∃ v M, e = .returned v ∧ R v M ∧ Below w.heap.size w w' ∧ (∀ g t cs, (g, t, cs) ∈ M → w.heap.size ≤ g ∧ Blk w' g t cs) ∧ (M.map (·.1)).Nodup
theorem St.addN {w0 : Base} {w w' : World} {L M : Blocks} (h : St w0 w L) (hg : Gr w w') (hM : ∀ g t cs, (g, t, cs) ∈ M → w.heap.size ≤ g ∧ Blk w' g t cs) (hn : (M.map (·.1)).Nodup) : St w0 w' (L ++ M) := by
  have h' := h.gr hg
  refine ⟨h'.below, fun g t cs hm => ?_, ?_, h'.size, h'.non⟩
  · rcases List.mem_append.1 hm with hm | hm
    · exact h'.blk g t cs hm
    · exact ⟨Nat.le_trans h.below.size (hM g t cs hm).1, (hM g t cs hm).2⟩
  · rw [List.map_append, List.nodup_append]
    refine ⟨h.apart, hn, fun x hx y hy e => ?_⟩
    obtain ⟨⟨g, t, cs⟩, hm, rfl⟩ := List.mem_map.1 hx
    obtain ⟨⟨g', t', cs'⟩, hm', rfl⟩ := List.mem_map.1 hy
    have h1 := (h.blk g t cs hm).2.lt
    have h2 := (hM g' t' cs' hm').1
    have e' : g = g' := e
    omega
theorem callN {w0 : Base} {ops : Array Oper} {o : Oper} {l : List Oper} (hg : good ops n F o = true) (f : FuncId) (args : Array Value) (he : ∀ w, (execOp (evF F) o).run P w = .ok (.enter f args) w) (R : Value → Blocks → Prop)
    (hc : ∀ w, St w0 w L → Calls P f args w (GetsN w R)) (h : ∀ v M, R v M → wpS P w0 n ops Q (putF F o.dst v) (L ++ M) l) : wpS P w0 n ops Q F L (o :: l) := fun a w ha hw => by
  obtain ⟨g1, _, g3, _⟩ := good_spec hg
  refine wpList_step fun K hK => ?_
  rw [if_pos (ha.wanted g1)]
  unfold Oper.wp
  rw [good_exec hg ha, he w]
  refine Calls.mono (hc w hw) fun e w' he' => ?_
  obtain ⟨v, M, rfl, hR, hb, hM, hn⟩ := he'
  exact hK _ _ (h v M hR _ _ (ha.put g3 v) (hw.addN hb hM hn))
theorem callND {w0 : Base} {ops : Array Oper} {ex : Nat → Bool} {fuel : Nat} {listed : Array Bool} (k : Nat) {oi : Oper} (hi0 : ops.toList[k]? = some oi) (hr : Region.ready .any ops listed = [k]) (hg : good ops n F oi = true) (f : FuncId) (args : Array Value)
    (he : ∀ w, (execOp (evF F) oi).run P w = .ok (.enter f args) w) (R : Value → Blocks → Prop) (hc : ∀ w, St w0 w L → Calls P f args w (GetsN w R)) (h : ∀ v M, R v M → wpD P w0 n ops Q ex (putF F oi.dst v) (L ++ M) fuel (listed.setIfInBounds k true)) : wpD P w0 n ops Q ex F L (fuel + 1) listed := fun a w ha hw =>
  wpAnyG_sole k hi0 hr (ha.wanted (good_spec hg).1) fun w1 h1 K hK => by
    unfold Oper.wp
    rw [good_exec hg ha, he w1]
    refine Calls.mono (hc w1 (hw.gr h1)) fun e w' he' => ?_
    obtain ⟨v, M, rfl, hR, hb, hM, hn⟩ := he'
    exact hK _ _ (fun _ => hb) (h v M hR _ _ (ha.put (good_spec hg).2.2.1 v) ((hw.gr h1).addN hb hM hn))

/-! ## Leaving behind a loop -/
theorem St.unmark {w0 fz : World} {D : Nat} {w : World} (h : St (ab w0 fz D) w L) (hD : w0.heap.size ≤ D) (hm : fz.heap[D]? = some (.deferred (some []))) :
    (Instr.takeDeferred D).run P w = .ok [] (w.putObj D (.deferred none)) ∧ St (Base.of w0) (w.putObj D (.deferred none)) L := by
  have ho := h.non D _ hD hm rfl
  have hg := grownBy_putObj' w D (.deferred none)
  refine ⟨run_takeDeferred ho, ?_⟩
  have h1 : St ⟨w0, w0, [], Fence.wide, 9⟩ w L := ⟨h.below, h.blk, h.apart, h.below.size, fun k o hk hq _ => by have := (Array.getElem?_eq_some_iff.1 hq).1; exact absurd this (by show ¬ k < w0.heap.size; have : w0.heap.size ≤ k := hk; omega)⟩
  exact h1.own (B := w0.heap.size) (Nat.le_refl _) (Nat.le_refl _) hg (fun r e => by cases e; exact ⟨hD, _, ho, rfl⟩)
theorem retM1 {w1 fz : World} {D : Nat} {fn : Func} {r : ResultVar} {v : Value} (hr : fn.results = #[r]) (h : Has P F L r v) (hD : w1.heap.size ≤ D) (hm : fz.heap[D]? = some (.deferred (some []))) : X (ab w1 fz D) n (bodyPostM Fence.wide 9 P fn (Gets w1 v)) F L .ret := fun a w ha hw => by
  obtain ⟨e1, e2⟩ := St.unmark (P := P) hw hD hm
  have hd : a.defers = [mark D] := ha.1
  show LeavesInM Fence.wide 9 P fn a.tmps (Gets w1 v) a.defers .returning w
  rw [hd]
  refine ⟨by simp, .inl ⟨D, _, rfl, e1, ?_⟩⟩
  refine ⟨v, ?_, rfl, e2.below⟩
  rcases Res.run h ha e2 with ⟨t, rfl, f1⟩ | ⟨t, ty, ad, rfl, f1, f2⟩ <;> simp [results, Result.andThen, *]
end
end Go.Proofs.YtbofhoonlmikcaaDoor.Sy

end
section
namespace Go.Proofs.YtbofhoonlmikcaaDoor.Sy
open Go.RowKit Go.Proofs.YtbofhoonlmikcaaDoor

/-- where a round of such a function begins -/
abbrev pb (W : World) (m : Nat) : Base := ⟨W, W, [], Fence.wide, m⟩
theorem St.here (W : World) (m : Nat) : St (pb W m) W [] := ⟨Below.refl _ _, (fun _ _ _ h => by cases h), List.Pairwise.nil, Nat.le_refl _, fun _ _ _ h _ => h⟩
theorem St.grown {W w : World} {m : Nat} {L : Blocks} (h : St (pb W m) w L) : Gr W w := h.below

section
variable {P : Program} {W : World} {m n : Nat} {Q : Exit → Act → World → Prop} {F : Slots} {L : Blocks} {ops : Array Oper} {o : Oper} {rest : List Oper}
theorem operIn_wide {o : Oper} {a : Act} {w : World} {K : Act → World → Prop} (hd : ∀ c, o.op ≠ .defer c) (h : o.wp P a w K Q) : o.wpIn Fence.wide m P a w K Q := by
  unfold Oper.wpIn
  refine ⟨fun _ _ => trivial, ?_⟩
  rw [Oper.semAt_plain _ _ _ hd]
  unfold Oper.wp at h
  generalize (execOp a.eval o).run P w = r at *
  cases r with
  | ok x w' =>
    cases x <;> simp only [Oper.upon, Oper.uponIn] at h ⊢ <;> first
      | exact h
      | exact ⟨fun e => by simp [Fence.wide] at e, callsIn_wide.2 h⟩
      | exact ⟨fun e => by simp [Fence.wide] at e, fun c cs _ => let ⟨v, w', r, s⟩ := h c cs; ⟨v, w', r, stepsIn_wide.2 s⟩⟩
      | exact h.elim
  | halt x w' => cases x <;> simp only [Oper.upon, Oper.uponIn] at h ⊢ <;> exact h
/-- on to the rest of the list -/
def thenI (P : Program) (ops : Array Oper) (m : Nat) (rest : List Oper) (Q : Exit → Act → World → Prop) : Exit → Act → World → Prop
  | .normal, a, w => wpListIn Fence.wide m P ops Q rest a w
  | e, a, w => Q e a w
theorem listIn_app (hq : ¬ LetsOut Q) : ∀ (l : List Oper), (∀ o ∈ l, ∀ c, o.op ≠ .defer c) → ∀ (a : Act) (w : World), wpList P ops (thenI P ops m rest Q) l a w → wpListIn Fence.wide m P ops Q (l ++ rest) a w
  | [], _, _, _, h => h
  | o :: l, hd, a, w, h => by
    have hq' : ¬ LetsOut (thenI P ops m rest Q) := fun ⟨a, w, q⟩ => hq ⟨a, w, q⟩
    unfold wpList at h
    show wpListIn Fence.wide m P ops Q (o :: (l ++ rest)) a w
    unfold wpListIn
    split
    · rename_i hw
      simp only [hw, if_true] at h
      rcases h with h | h
      · have h1 := operIn_wide (m := m) (hd o (by simp)) h
        have h2 : o.wpIn Fence.wide m P a w _ Q := h1
        exact Oper.wpIn_mono (fun a w h' => listIn_app hq l (fun o ho => hd o (by simp [ho])) a w h') h2
      · exact absurd h.2 hq'
    · rename_i hw
      simp only [hw] at h
      exact ⟨fun _ _ => trivial, listIn_app hq l (fun o ho => hd o (by simp [ho])) _ _ h⟩
theorem listIn_wide (hq : ¬ LetsOut Q) : ∀ (l : List Oper), (∀ o ∈ l, ∀ c, o.op ≠ .defer c) → ∀ (a : Act) (w : World), wpList P ops Q l a w → wpListIn Fence.wide m P ops Q l a w
  | [], _, _, _, h => h
  | o :: l, hd, a, w, h => by
    unfold wpList at h
    unfold wpListIn
    split
    · rename_i hw
      simp only [hw, if_true] at h
      rcases h with h | h
      · exact Oper.wpIn_mono (fun a w h' => listIn_wide hq l (fun o ho => hd o (by simp [ho])) a w h') (operIn_wide (hd o (by simp)) h)
      · exact absurd h.2 hq
    · rename_i hw
      simp only [hw] at h
      exact ⟨fun _ _ => trivial, listIn_wide hq l (fun o ho => hd o (by simp [ho])) _ _ h⟩
theorem noDefer_mem (h : noDefer ops = true) {o : Oper} (ho : o ∈ ops.toList) : ∀ c, o.op ≠ .defer c := by
  obtain ⟨i, hi⟩ := List.mem_iff_getElem?.1 ho
  exact noDefer_spec h (by simpa using hi)
/-- a region in which a value is handed on: the k operations ahead of that -/
theorem regionY {i : Nat} (k : Nat) (hq : ¬ LetsOut Q) (hd : noDefer ops = true) (h : wpS P (pb W m) n ops (thenI P ops m (ops.toList.drop k) Q) F L (ops.toList.take k)) : wpC P (pb W m) n Q F L (.region i ops false) := fun a w ha hw => by
  refine wpIn_region_list ?_
  have h1 := listIn_app hq (ops.toList.take k) (fun o ho => noDefer_mem hd (List.mem_of_mem_take ho)) a w (h a w ha hw)
  rwa [List.take_append_drop] at h1
/-- a value is handed on -/
theorem yieldX {ro : Option Nat} {k : Nat} (hl : ops.toList.drop k = o :: rest) (hq : ¬ LetsOut Q) (hd : noDefer ops = true) (hg : good ops n F o = true) (l : Nat) (args : Array Value) (he : ∀ w, (execOp (evF F) o).run P w = (Instr.yield l args).run P w)
    (R : Ending → World → Prop) (hY : ∀ w, Gr W w → YieldAt Fence.wide (m - 1) P l args w R) (hR : ∀ e w', R e w' → ∃ b, e = .returned (.bool b)) (_ : ro = none)
    (h : ∀ w' b, R (.returned (.bool b)) w' → wpS P (pb w' m) n ops Q (putF F o.dst (.bool b)) [] rest) : X (pb W m) n (thenI P ops m (ops.toList.drop k) Q) F L .normal := fun a w ha hw => by
  show wpListIn Fence.wide m P ops Q (ops.toList.drop k) a w
  have hdr : ∀ o ∈ ops.toList.drop k, ∀ c, o.op ≠ .defer c := fun o ho => noDefer_mem hd (List.mem_of_mem_drop ho)
  rw [hl] at hdr ⊢
  obtain ⟨g1, _, g3, _⟩ := good_spec hg
  unfold wpListIn
  rw [if_pos (ha.wanted g1)]
  unfold Oper.wpIn
  refine ⟨fun _ _ => trivial, ?_⟩
  rw [Oper.semAt_plain _ _ _ (hdr o (by simp)), good_exec hg ha, he w]
  obtain ⟨fn, tmps, assign, body, e1, e2⟩ := hY w hw.grown
  rw [e1]
  refine ⟨fun e => by simp [Fence.wide] at e, e2.mono fun e w' hr => ?_⟩
  obtain ⟨b, rfl⟩ := hR e w' hr
  exact listIn_wide hq rest (fun o ho => hdr o (by simp [ho])) _ _ (h w' b hr _ _ (ha.put g3 _) (St.here w' m))

theorem abides_gr {β : Type} {B : Nat} {J : β → World → Prop} (h : AbidesFrom B J) {s : β} {X Y : World} (hj : J s X) (hg : Gr X Y) : J s Y := h s X Y none hj (only_of_below hg none) (fun r e => by cases e)
theorem yield_mono {l : Nat} {args : Array Value} {R R' : Ending → World → Prop} (h : YieldAt Fence.wide m P l args W R) (hr : ∀ e w, R e w → R' e w) : YieldAt Fence.wide m P l args W R' := by
  obtain ⟨fn, tmps, assign, body, e1, e2⟩ := h
  exact ⟨fn, tmps, assign, body, e1, e2.mono hr⟩

/-! ## Its loop -/
def NextP (n N : Nat) (FF : Nat → Slots) (Z : Nat → World → Prop) (k : Nat) : Act → World → Prop := fun a w => k < N ∧ Fr [] a n (FF (k + 1)) ∧ Z (k + 1) w
theorem loopP {c : Code} (N : Nat) (FF : Nat → Slots) (Z : Nat → World → Prop) (hF : ∀ p ∈ FF 0, F.lookup p.1 = some p.2) (h0 : ∀ w, Gr W w → Z 0 w)
    (hr : ∀ k w, k ≤ N → Z k w → wpC P (pb w m) n (Exit.then (NextP n N FF Z k) Q) (FF k) [] c) : wpC P (pb W m) n Q F L (.loop c) :=
  loopI N (fun k a w => Fr [] a n (FF k) ∧ Z k w) (fun a w ha hw => ⟨ha.all hF, h0 w hw.grown⟩)
    fun k hk a w ⟨ha, hz⟩ => hr k w hk hz a w ha (St.here w m)
theorem againP {N : Nat} {FF : Nat → Slots} {Z : Nat → World → Prop} {k : Nat} {R : Exit → Act → World → Prop} (hk : k < N) (hF : ∀ p ∈ FF (k + 1), F.lookup p.1 = some p.2) (hz : ∀ w, Gr W w → Z (k + 1) w) :
    X (pb W m) n (Exit.then (NextP n N FF Z k) R) F L .normal := fun _ w ha hw => ⟨hk, ha.all hF, hz w hw.grown⟩
theorem enterP {f : FuncId} {fn : Func} {c : Code} {args : List Value} {R : Ending → World → Prop} (hf : P.funcs[f]? = some fn) (hb : fn.body = some c) (hn : args.length ≤ fn.ntmps)
    (h : wpC P (pb W m) fn.ntmps (bodyPost P fn R) (slotsOf 0 args) [] c) : CallsIn Fence.wide m P f args.toArray W R :=
  callsIn_of_wp hf hb trivial (h _ _ ⟨rfl, by simp; omega, fun i v hi => by
    have := (lookup_slotsOf args 0 i v hi).2
    rw [Nat.sub_zero] at this
    have hl := (List.getElem?_eq_some_iff.1 this).1
    rw [Array.getElem?_append_left (by simpa using hl)]
    simpa using this⟩ (St.here W m)) rfl
theorem retP {fn : Func} {R : Ending → World → Prop} (hr : fn.results = #[]) (h : ∀ v w, Gr W w → R (.returned v) w) {e : Exit} (he : e = .ret ∨ e = .normal) : X (pb W m) n (bodyPost P fn R) F L e := fun a w ha hw => by
  have hx : a.defers = [] ∧ ∃ v, (results fn a.tmps).run P w = .ok v w ∧ R (.returned v) w := ⟨ha.1, _, results_none hr _ _ _, h _ w hw.grown⟩
  rcases he with rfl | rfl <;> exact hx
end
end Go.Proofs.YtbofhoonlmikcaaDoor.Sy

end
section
namespace Go.Proofs.YtbofhoonlmikcaaDoor.Cu
open Go.RowKit Go.Proofs.YtbofhoonlmikcaaDoor Go.Proofs.YtbofhoonlmikcaaDoor.Sy
set_option maxRecDepth 100000
set_option maxHeartbeats 4000000

/-- a chunk of a slice -/
def chV (b off m c : Nat) : Value := .slice (some ⟨b, off + 32 * c * 13, none⟩) (szC m c) (szC m c)
def chE (b off m : Nat) {N : Nat} (x : Fin N) : Array Value := #[chV b off m x.val]
set_option maxHeartbeats 1000000 in
theorem chunk_any (w : World) (A : Option Addr) (m cap : Nat) :
    Calls Tryd.prog 55 #[.slice A m cap, .int .i64 32] w (GetsN w fun v M => ∃ g1 g2, v = .func (.func 74) #[] #[.pointer (some ⟨g1, 0, none⟩), .pointer (some ⟨g2, 0, none⟩)] ∧ M = [(g1, 68, #[.slice A m cap]), (g2, 3, #[.int .i64 32])]) := by
  go_enter Tryd.func55, Tryd.ntmps55
  go_wp2
  go_ret
  refine ⟨_, _, rfl, ⟨_, _, rfl, rfl⟩, below_alloc2 w _ _, fun g t cs hm => ?_, ?_⟩
  · simp only [List.mem_cons, List.not_mem_nil, or_false, Prod.mk.injEq] at hm
    rcases hm with ⟨rfl, rfl, rfl⟩ | ⟨rfl, rfl, rfl⟩
    · exact ⟨Nat.le_refl _, (Blk.new w _ _).alloc _⟩
    · exact ⟨by omega, blk_new2 w _ _ _⟩
  · simp
theorem chunk1_in (n l Bs Bn n₀ b off m cap N : Nat) (hN0 : N = (m + 31) / 32) (hm : m ≤ cap) (hm2 : m ≤ 4611686018427387904) (J Jx : List (Fin N) → World → Prop) (W : World) (hJ : AbidesFrom W.heap.size J) (hJx : AbidesFrom W.heap.size Jx)
    (hY : ∀ pre x W1, J pre W1 → pre.length < N → YieldAt Fence.wide (n - 1) Tryd.prog l (chE b off m x) W1 fun e W' => (e = .returned (.bool true) ∧ J (pre ++ [x]) W' ∧ KpL n₀ [(Bs, 68, #[.slice (some ⟨b, off, none⟩) m cap]), (Bn, 3, #[.int .i64 32])] W1 W') ∨ (e = .returned (.bool false) ∧ Jx (pre ++ [x]) W'))
    (hS : Blk W Bs 68 #[.slice (some ⟨b, off, none⟩) m cap]) (hN : Blk W Bn 3 #[.int .i64 32]) (h0 : J [] W) :
    CallsIn Fence.wide n Tryd.prog 74 #[.func (.yield l) #[] #[], .pointer (some ⟨Bs, 0, none⟩), .pointer (some ⟨Bn, 0, none⟩)] W fun e W' => (∃ v, e = .returned v) ∧ ((∃ ys : List (Fin N), ys.map (·.1) = List.range N ∧ J ys W') ∨ (∃ pre : List (Fin N), (∃ k, k ≤ N ∧ pre.map (·.1) = List.range k) ∧ Jx pre W')) := by
  refine Sy.enterP (args := [.func (.yield l) #[] #[], .pointer (some ⟨Bs, 0, none⟩), .pointer (some ⟨Bn, 0, none⟩)]) Tryd.func74 rfl kL ?_
  refine sC ?_
  refine sP (.int .i64 0) ?_
  refine sG ?_
  refine Sy.block ?_
  refine Sy.loopP N (fun k1 => [(0, .func (.yield l) #[] #[]), (1, .pointer (some ⟨Bs, 0, none⟩)), (2, .pointer (some ⟨Bn, 0, none⟩)), (4, .int .i64 ((32 * k1 : Nat) : Int))]) (fun k1 w => ∃ pre : List (Fin N), pre.map (·.1) = List.range k1 ∧ J pre w ∧ Blk w Bs 68 #[.slice (some ⟨b, off, none⟩) m cap] ∧ Blk w Bn 3 #[.int .i64 32]) (all_cons kR (all_cons kR (all_cons kR (all_cons kR all_nil)))) (fun w hg => ⟨[], rfl, abides_gr hJ h0 hg, hg.blk hS, hg.blk hN⟩) (fun k1 wr hk1 hz => ?_)
  clear hS hN
  obtain ⟨pre, hpre, hj, hS, hN⟩ := hz
  have hlen : pre.length = k1 := by have := congrArg List.length hpre; rwa [List.length_map, List.length_range] at this
  refine Sy.seq ?_
  refine sC ?_
  refine sP (.int .i64 ((32 * k1 : Nat) : Int)) <| sS (.slice (some ⟨b, off, none⟩) m cap) (Quiet.thereOne Bs 0 68 _ _ rfl kR hS.lt _ (hS.cell 0) Tryd.underlying68 rfl) <| sP (.int .i64 ((m : Nat) : Int)) ?_
  obtain ⟨b1, hb1⟩ : ∃ z : Bool, z = decide (32 * k1 < m) := ⟨_, rfl⟩
  refine sS (.bool b1) (Quiet.pure (exec_int .lss _ _ _ .i64 _ _ _ rfl rfl rfl (int_lss _ _ _ _ _ (by rw [hb1]; exact decide_eq_decide.2 (by omega))))) ?_
  refine sG ?_
  cases b1
  · have lb1 : ¬ (32 * k1 < m) := of_decide_eq_false hb1.symm
    refine sU ?_
    refine Sy.exit ?_
    refine Sy.then_exit ?_
    refine Sy.then_exit ?_
    obtain rfl : N = k1 := by omega
    refine Sy.in_exit ?_
    exact Sy.retP rfl (fun v w3 hg => ⟨⟨_, rfl⟩, .inl ⟨pre, hpre, abides_gr hJ hj hg⟩⟩) (.inr rfl)
  · have lb1 : 32 * k1 < m := of_decide_eq_true hb1.symm
    refine sT ?_
    refine Sy.skip ?_
    refine Sy.then_ ?_
    refine Sy.seq ?_
    refine Sy.block ?_
    refine Sy.seq ?_
    refine Sy.regionD (fun j => false) kR ?_
    refine sD 0 rfl (.int .i64 ((32 : Nat) : Int)) (Quiet.thereOne Bn 0 3 _ _ rfl kR hN.lt _ (hN.cell 0) Tryd.underlying3 rfl) <| sD 1 rfl (.slice (some ⟨b, off, none⟩) m cap) (Quiet.thereOne Bs 0 68 _ _ rfl kR hS.lt _ (hS.cell 0) Tryd.underlying68 rfl) <| sZ 2 rfl (.int .i64 ((32 * k1 : Nat) : Int)) <| sD 3 rfl (.slice (some ⟨b, off + (32 * k1) * 13, none⟩) (m - (32 * k1)) (cap - (32 * k1))) (Quiet.pure (exec_sl1 _ _ _ b off m cap (32 * k1) 13 .i64 rfl rfl rfl kR kF (by omega) (by omega))) <| sZ 4 rfl (.int .i64 (((m - (32 * k1)) : Nat) : Int)) ?_
    obtain ⟨sz, hsz⟩ : ∃ z, z = szC m k1 := ⟨_, rfl⟩
    have hs : 0 < sz ∧ 32 * k1 + sz ≤ m := by rw [hsz]; unfold szC; omega
    refine sD 5 rfl (.int .i64 ((sz : Nat) : Int)) (Quiet.pure (exec_min _ _ .i64 32 (m - (32 * k1)) sz rfl rfl rfl (by rw [hsz]; unfold szC; omega))) <| sZ 6 rfl (.int .i64 ((sz : Nat) : Int)) ?_
    refine sI ?_
    refine Sy.seq ?_
    have hx : k1 < N := by omega
    refine Sy.regionY 10 (by rintro ⟨_, _, ⟨_, hv⟩, _⟩; cases hv) kR ?_
    refine sP (.func (.yield l) #[] #[]) <| sS (.slice (some ⟨b, off, none⟩) m cap) (Quiet.thereOne Bs 0 68 _ _ rfl kR hS.lt _ (hS.cell 0) Tryd.underlying68 rfl) <| sP (.int .i64 ((32 * k1 : Nat) : Int)) <| sP (.int .i64 ((32 * k1 : Nat) : Int)) <| sP (.int .i64 ((sz : Nat) : Int)) <| sS (.int .i64 (((32 * k1) + sz : Nat) : Int)) (Quiet.pure (exec_int .add _ _ _ .i64 _ _ _ rfl rfl rfl (int_add _ _ _ _ _ ((wrap_i64 (by omega) (by omega)).trans (by omega))))) <| sP (.int .i64 ((32 * k1 : Nat) : Int)) <| sP (.int .i64 ((sz : Nat) : Int)) ?_
    refine sS (.int .i64 (((32 * k1) + sz : Nat) : Int)) (Quiet.pure (exec_int .add _ _ _ .i64 _ _ _ rfl rfl rfl (int_add _ _ _ _ _ ((wrap_i64 (by omega) (by omega)).trans (by omega))))) <| sS (.slice (some ⟨b, off + (32 * k1) * 13, none⟩) (((32 * k1) + sz) - (32 * k1)) (((32 * k1) + sz) - (32 * k1))) (Quiet.pure (exec_sl3 _ _ _ _ _ b off m cap (32 * k1) ((32 * k1) + sz) ((32 * k1) + sz) 13 .i64 .i64 .i64 rfl rfl rfl rfl rfl kR kF (by have := hs; omega) (by have := hs; omega) (by have := hs; omega) (by have := hs; omega))) ?_
    refine Sy.nil ?_
    refine Sy.yieldX (ro := none) rfl (by rintro ⟨_, _, ⟨_, hv⟩, _⟩; cases hv) kR kR l #[.slice (some ⟨b, off + (32 * k1) * 13, none⟩) (((32 * k1) + sz) - (32 * k1)) (((32 * k1) + sz) - (32 * k1))] kF (fun e W' => (e = .returned (.bool true) ∧ J (pre ++ [⟨k1, hx⟩]) W' ∧ Blk W' Bs 68 #[.slice (some ⟨b, off, none⟩) m cap] ∧ Blk W' Bn 3 #[.int .i64 32]) ∨ (e = .returned (.bool false) ∧ Jx (pre ++ [⟨k1, hx⟩]) W')) (fun w hg => by
            have e : chE b off m ⟨k1, hx⟩ = #[.slice (some ⟨b, off + 32 * k1 * 13, none⟩) (32 * k1 + sz - 32 * k1) (32 * k1 + sz - 32 * k1)] := by unfold chE chV; rw [← hsz, Nat.add_sub_cancel_left]
            have y := hY pre ⟨k1, hx⟩ w (abides_gr hJ hj hg) (by omega)
            rw [e] at y
            exact yield_mono y (fun e w' q => q.imp (fun q => ⟨q.1, q.2.1, q.2.2.2 (Bs, 68, _) (by simp) (hg.blk hS), q.2.2.2 (Bn, 3, _) (by simp) (hg.blk hN)⟩) id)) (fun e w' q => q.elim (fun q => ⟨_, q.1⟩) (fun q => ⟨_, q.1⟩)) rfl (fun w2 b hr => ?_)
    cases b
    · have hx2 := hr.elim (fun q => by cases q.1) (fun q => q.2)
      refine sP (.bool true) ?_
      refine sG ?_
      refine sT ?_
      refine Sy.ret ?_
      refine Sy.in_ret ?_
      refine Sy.then_ret ?_
      refine Sy.then_ret ?_
      refine Sy.in_ret ?_
      exact Sy.retP rfl (fun v w3 hg => ⟨⟨_, rfl⟩, .inr ⟨pre ++ [⟨k1, hx⟩], ⟨k1 + 1, by omega, by rw [List.map_append, hpre, List.range_succ]; rfl⟩, abides_gr hJx hx2 hg⟩⟩) (.inl rfl)
    · clear hS hN hj
      obtain ⟨hj, hS, hN⟩ := hr.elim (fun q => q.2) (fun q => by cases q.1)
      refine sP (.bool false) ?_
      refine sG ?_
      refine sU ?_
      refine Sy.skip ?_
      refine Sy.in_ ?_
      refine Sy.then_ ?_
      refine Sy.region ?_
      refine sP (.int .i64 ((32 * k1 : Nat) : Int)) <| sS (.int .i64 ((32 : Nat) : Int)) (Quiet.thereOne Bn 0 3 _ _ rfl kR hN.lt _ (hN.cell 0) Tryd.underlying3 rfl) <| sS (.int .i64 (((32 * k1) + 32 : Nat) : Int)) (Quiet.pure (exec_int .add _ _ _ .i64 _ _ _ rfl rfl rfl (int_add _ _ _ _ _ ((wrap_i64 (by omega) (by omega)).trans (by omega))))) <| sP (.int .i64 (((32 * k1) + 32 : Nat) : Int)) ?_
      refine Sy.nil ?_
      exact Sy.againP (by omega) (all_cons kR (all_cons kR (all_cons kR (all_cons kR all_nil)))) (fun w3 hg => ⟨pre ++ [⟨k1, hx⟩], by rw [List.map_append, hpre, List.range_succ]; rfl, abides_gr hJ hj hg, hg.blk hS, hg.blk hN⟩)
theorem chunk0_in (n l Bs Bn cap : Nat) (A : Option Addr) (J Jx : List (Fin 0) → World → Prop) (W : World) (hJ : AbidesFrom W.heap.size J)
    (hS : Blk W Bs 68 #[.slice A 0 cap]) (hN : Blk W Bn 3 #[.int .i64 32]) (h0 : J [] W) :
    CallsIn Fence.wide n Tryd.prog 74 #[.func (.yield l) #[] #[], .pointer (some ⟨Bs, 0, none⟩), .pointer (some ⟨Bn, 0, none⟩)] W fun e W' => (∃ v, e = .returned v) ∧ ((∃ ys : List (Fin 0), ys.map (·.1) = List.range 0 ∧ J ys W') ∨ (∃ pre : List (Fin 0), (∃ k, k ≤ 0 ∧ pre.map (·.1) = List.range k) ∧ Jx pre W')) := by
  refine Sy.enterP (args := [.func (.yield l) #[] #[], .pointer (some ⟨Bs, 0, none⟩), .pointer (some ⟨Bn, 0, none⟩)]) Tryd.func74 rfl kL ?_
  refine sC ?_
  refine sP (.int .i64 0) ?_
  refine sG ?_
  refine Sy.block ?_
  refine Sy.loopP 0 (fun k1 => [(0, .func (.yield l) #[] #[]), (1, .pointer (some ⟨Bs, 0, none⟩)), (2, .pointer (some ⟨Bn, 0, none⟩)), (4, .int .i64 ((32 * k1 : Nat) : Int))]) (fun k1 w => J [] w ∧ Blk w Bs 68 #[.slice A 0 cap] ∧ Blk w Bn 3 #[.int .i64 32]) (all_cons kR (all_cons kR (all_cons kR (all_cons kR all_nil)))) (fun w hg => ⟨abides_gr hJ h0 hg, hg.blk hS, hg.blk hN⟩) (fun k1 wr hk1 hz => ?_)
  clear hS hN
  obtain ⟨hj, hS, hN⟩ := hz
  refine Sy.seq ?_
  refine sC ?_
  refine sP (.int .i64 ((32 * k1 : Nat) : Int)) <| sS (.slice A 0 cap) (Quiet.thereOne Bs 0 68 _ _ rfl kR hS.lt _ (hS.cell 0) Tryd.underlying68 rfl) <| sP (.int .i64 ((0 : Nat) : Int)) ?_
  obtain ⟨b1, hb1⟩ : ∃ z : Bool, z = decide (32 * k1 < 0) := ⟨_, rfl⟩
  refine sS (.bool b1) (Quiet.pure (exec_int .lss _ _ _ .i64 _ _ _ rfl rfl rfl (int_lss _ _ _ _ _ (by rw [hb1]; exact decide_eq_decide.2 (by omega))))) ?_
  refine sG ?_
  cases b1
  · have lb1 : ¬ (32 * k1 < 0) := of_decide_eq_false hb1.symm
    refine sU ?_
    refine Sy.exit ?_
    refine Sy.then_exit ?_
    refine Sy.then_exit ?_
    obtain rfl : k1 = 0 := by omega
    refine Sy.in_exit ?_
    exact Sy.retP rfl (fun v w3 hg => ⟨⟨_, rfl⟩, .inl ⟨[], rfl, abides_gr hJ hj hg⟩⟩) (.inr rfl)
  · have lb1 : 32 * k1 < 0 := of_decide_eq_true hb1.symm
    refine sT ?_
    refine Sy.skip ?_
    refine Sy.then_ ?_
    refine Sy.seq ?_
    exact absurd lb1 (by omega)
/-- the terms lie at A -/
def TSrc (w : World) (A : Option Addr) (n : Nat) (T : Nat → Trm) (b o : Nat) : Prop := 0 < n → A = some ⟨b, o, none⟩ ∧ b < w.heap.size ∧ ∀ j, j < n → w.rangeAt b (o + j * 13) (T j).cells
theorem chunk_stops (n Bs Bn n₀ b off m cap N : Nat) (A : Option Addr) (hN0 : N = (m + 31) / 32) (hm : m ≤ cap) (hm2 : m ≤ 4611686018427387904) (hA : 0 < m → A = some ⟨b, off, none⟩) (w : World) (hS : Blk w Bs 68 #[.slice A m cap]) (hN : Blk w Bn 3 #[.int .i64 32]) :
    SeqStopsK Fence.wide n Tryd.prog 74 #[.pointer (some ⟨Bs, 0, none⟩), .pointer (some ⟨Bn, 0, none⟩)] (chE b off m (N := N)) (KpL n₀ [(Bs, 68, #[.slice A m cap]), (Bn, 3, #[.int .i64 32])]) (fun ys => ys.map (·.1) = List.range N) (fun pre => ∃ k, k ≤ N ∧ pre.map (·.1) = List.range k) N w := fun l J Jx W hW hJ hJx hY h0 => by
  have hS' := hS.below hW hS.lt
  have hN' := hN.below hW hN.lt
  rcases Nat.eq_zero_or_pos m with h | h
  · subst h
    obtain rfl : N = 0 := hN0
    exact chunk0_in n l Bs Bn cap A J Jx W hJ hS' hN' h0
  · obtain rfl := hA h
    exact chunk1_in n l Bs Bn n₀ b off m cap N hN0 hm hm2 J Jx W hJ hJx hY hS' hN' h0
end Go.Proofs.YtbofhoonlmikcaaDoor.Cu

end
section
namespace Go.Proofs.YtbofhoonlmikcaaDoor.Cu
open Go.RowKit Go.Proofs.YtbofhoonlmikcaaDoor Go.Proofs.YtbofhoonlmikcaaDoor.Sy

theorem rangeN2 {w w' : World} {g o o' : Nat} {vs : List Value} (h : w.rangeAt g o vs) (hb : Below w.heap.size w w') (hg : g < w.heap.size) (e : o' = o) : w'.rangeAt g o' vs := fun j v hj => by
  rw [e]
  exact (Below.cell (p := ⟨g, o + j, none⟩) hb hg).trans (h j v hj)
set_option maxHeartbeats 4000000 in
set_option maxRecDepth 100000 in
theorem multi_any (w : World) (A : Option Addr) (b o n c : Nat) (T : Nat → Trm) (hnc : n ≤ c) (hc : n ≤ 4611686018427387904) (hok : ∀ j, (T j).ok) (hT : TSrc w A n T b o) : Calls Tryd.prog 29 #[.slice A n c] w (Gets w (ptv (Ec.sumL finv (fun t => Ec.nm finv (T t).kn (T t).pt) (List.range n)))) := by
  obtain ⟨N, hN0⟩ : ∃ N, N = (n + 31) / 32 := ⟨_, rfl⟩
  obtain ⟨R, hR⟩ : ∃ R, R = ptJ (chL T n (List.range N)) := ⟨_, rfl⟩
  have hRs : Ec.sumL finv (fun t => Ec.nm finv (T t).kn (T t).pt) (List.range n) = R := by rw [hR, hN0]; exact (ptJ_rep (chL_all T n)).symm
  rw [hRs]
  have hRo : Ec.On R := by rw [← hRs]; exact Ec.On.sumL fld _ fun x _ => (T x).on.nm fld _
  obtain ⟨rx, ry, ri, _, _, eR, _, _⟩ := ptv_raw R hRo
  rw [eR]
  refine Sy.enterM (args := [.slice A n c]) Tryd.func29 rfl kL ?_
  refine sC ?_
  refine sM 43 (pcs 0 0 false) (fun g0 => ?_)
  refine sA ?_
  refine sM 94 (tcs 0 0 0) (fun g1 => ?_)
  refine sG ?_
  refine Sy.seq ?_
  refine sC ?_
  refine sP (.slice A n c) ?_
  refine Sy.callN kR 55 #[.slice A n c, .int .i64 32] kF (fun v M => ∃ g1 g2, v = .func (.func 74) #[] #[.pointer (some ⟨g1, 0, none⟩), .pointer (some ⟨g2, 0, none⟩)] ∧ M = [(g1, 68, #[.slice A n c]), (g2, 3, #[.int .i64 32])]) (fun w _ => chunk_any w _ _ _) (fun v M hR0 => ?_)
  obtain ⟨u1, u2, rfl, rfl⟩ := hR0
  refine sG ?_
  refine Sy.block ?_
  refine Sy.rangeF (α := Fin N) 74 #[.pointer (some ⟨u1, 0, none⟩), .pointer (some ⟨u2, 0, none⟩)] kR kR (enters_of Tryd.func74 kR rfl) (chE b o n) [(u1, 68, (#[.slice A n c])), (u2, 3, (#[.int .i64 32]))] (fun ys => ys.map (·.1) = List.range N) (fun pre => ∃ k, k ≤ N ∧ pre.map (·.1) = List.range k) N (fun _ => rfl) (by decide) [g0, g1, u1, u2] (fun _ => True) (trivial) (fun pre => [(g0, 43, (pcs 0 0 false)), (g1, 94, (tcs ((chL T n (pre.map (·.1))).x.val) ((chL T n (pre.map (·.1))).y.val) ((chL T n (pre.map (·.1))).z.val))), (u1, 68, (#[.slice A n c])), (u2, 3, (#[.int .i64 32]))]) (fun pre => [(g0, 43, (pcs 0 0 false)), (g1, 94, (tcs ((chL T n (pre.map (·.1))).x.val) ((chL T n (pre.map (·.1))).y.val) ((chL T n (pre.map (·.1))).z.val))), (u1, 68, (#[.slice A n c])), (u2, 3, (#[.int .i64 32]))]) (fun _ => False) [true, true, true, true] kR (fun _ => rfl) ?_ ?_ 0 (fun x gs => [(3, .pointer (some ⟨g1, 0, none⟩)), (4, chV b o n x.val)]) (fun x gs => []) (fun x gs h => by cases gs with | nil => rfl | cons _ _ => cases h) ?_ ?_ ?_ ?_
  · intro w hw
    have hS := hw.get (i := 2) rfl
    have hN := hw.get (i := 3) rfl
    exact ⟨w, Below.refl _ _, chunk_stops 8 u1 u2 _ b o n c N A hN0 hnc hc (fun h => (hT h).1) w hS hN⟩
  · intro p hp pre
    simp only [List.mem_cons, List.not_mem_nil, or_false] at hp ⊢
    rcases hp with rfl | rfl <;> simp
  · intro l fz pre x
    refine Sy.regionR (by rintro ⟨_, _, h⟩; exact h) kR ⟨_, rfl⟩ ?_
    refine sP (chV b o n x.val) ?_
    refine Sy.nil ?_
    exact Sy.apN [] rfl (all_cons kR (all_cons kR all_nil)) [true, true, true, true] kR
  · intro l fz pre x gs hgs hlen hH
    obtain rfl : gs = [] := List.eq_nil_of_length_eq_zero hgs
    have hxN := x.isLt
    have hn0 : 0 < n := by omega
    refine Sy.block ?_
    refine Sy.regionRD (by rintro ⟨_, _, h⟩; exact h) kR ⟨_, rfl⟩ (fun j => j == 4) kR ?_
    refine sD 0 rfl (tv ((chL T n (pre.map (·.1))).x.val) ((chL T n (pre.map (·.1))).y.val) ((chL T n (pre.map (·.1))).z.val)) (qL 1 g1 0 12 94 94 (tcs ((chL T n (pre.map (·.1))).x.val) ((chL T n (pre.map (·.1))).y.val) ((chL T n (pre.map (·.1))).z.val)) rfl Tryd.underlying94) <| sZ 1 rfl (chV b o n x.val) ?_
    obtain ⟨j1, hj1⟩ : ∃ z : J, z = muJ (fun j => T (x.val * 32 + j)) (szC n x.val) 64 := ⟨_, rfl⟩
    refine sD 2 rfl (tv j1.x.val j1.y.val j1.z.val) (qG 57 #[chV b o n x.val] (fun w hw => by rw [hj1]; exact multi_c w b (o + 32 * x.val * 13) (szC n x.val) (szC n x.val) (fun j => T (x.val * 32 + j)) (Nat.lt_of_lt_of_le (hT hn0).2.1 hw.below.size) (by unfold szC; omega) (fun j => hok _) (fun j hj => rangeN2 ((hT hn0).2.2 (x.val * 32 + j) (by unfold szC at hj; omega)) hw.below (hT hn0).2.1 (by omega)))) ?_
    obtain ⟨j2, hj2⟩ : ∃ z : J, z = addJ (chL T n (pre.map (·.1))) j1 := ⟨_, rfl⟩
    refine sD 3 rfl (tv j2.x.val j2.y.val j2.z.val) (qF 56 #[tv ((chL T n (pre.map (·.1))).x.val) ((chL T n (pre.map (·.1))).y.val) ((chL T n (pre.map (·.1))).z.val), tv j1.x.val j1.y.val j1.z.val] (fun w => by rw [hj2]; exact addJ_c w (chL T n (pre.map (·.1))) j1)) <| sX 4 rfl 1 g1 94 (tcs ((chL T n (pre.map (·.1))).x.val) ((chL T n (pre.map (·.1))).y.val) ((chL T n (pre.map (·.1))).z.val)) (tcs j2.x.val j2.y.val j2.z.val) (wS 0 94 (tcs j2.x.val j2.y.val j2.z.val) rfl) ?_
    refine sE ?_
    refine Sy.in_ ?_
    exact Sy.bpN [true, true, true, true] (M := [(g0, 43, (pcs 0 0 false)), (g1, 94, (tcs j2.x.val j2.y.val j2.z.val)), (u1, 68, (#[.slice A n c])), (u2, 3, (#[.int .i64 32]))]) kR (bcons rfl (bcons (beq (by rw [hj2, hj1, List.map_append, List.map_singleton, chL_snoc]; rfl)) (bcons rfl (bcons rfl rfl)))) (trivial)
  · intro D fz xs hS hH hD hm
    have hS0 : xs.map (·.1) = List.range N := hS
    refine Sy.in_ ?_
    refine sB ?_
    refine sS (tv ((chL T n (xs.map (·.1))).x.val) ((chL T n (xs.map (·.1))).y.val) ((chL T n (xs.map (·.1))).z.val)) (qL 1 g1 0 12 94 94 (tcs ((chL T n (xs.map (·.1))).x.val) ((chL T n (xs.map (·.1))).y.val) ((chL T n (xs.map (·.1))).z.val)) rfl Tryd.underlying94) <| sS (pv rx ry ri) (qF 58 #[tv ((chL T n (xs.map (·.1))).x.val) ((chL T n (xs.map (·.1))).y.val) ((chL T n (xs.map (·.1))).z.val)] (fun w => by rw [← eR, hR, ← hS0]; exact point_c w _)) <| sW 0 g0 43 (pcs 0 0 false) (pcs rx ry ri) (wS 0 43 (pcs rx ry ri) rfl) ?_
    refine sG ?_
    refine Sy.ret ?_
    exact Sy.retM1 (v := pv rx ry ri) rfl (.inl (Res.cell (ty' := 43) g0 0 (pcs rx ry ri) _ kR kR Tryd.underlying43 rfl kR kR)) hD hm
  · intro D fz pre hS hx hD hm
    exact hx.elim
end Go.Proofs.YtbofhoonlmikcaaDoor.Cu

end
