/-
  The walk by what is known, more: appends to slices of the call's own, cells stored one by one, calls that lean on what is known, memory that was there before the call, loops.
-/
import Derived.Test.YtlojidnlkflpnaaSym
import Derived.Laws.AppendOwn
import Derived.Deep.DeepAppendRoom
import Derived.ArgAppend
namespace Go.Proofs.Ytlojidnlkflpnaa.Sy
open Go.RowKit Go.Proofs.Ytlojidnlkflpnaa

theorem St.setNew {w0 w w' : World} {L : Blocks} (h : St w0 w L) (hg : Gr w w') {i g : Nat} {t : TypeId} {cs : Array Value} (hi : i < L.length) (hn : w.heap.size ≤ g) (hb : Blk w' g t cs) : St w0 w' (L.set i (g, t, cs)) := by
  refine ⟨Below.gr h.below hg, fun g1 t1 c1 hm => ?_, ?_⟩
  · rcases List.mem_or_eq_of_mem_set hm with hm | e
    · exact ⟨(h.blk g1 t1 c1 hm).1, hg.blk (h.blk g1 t1 c1 hm).2⟩
    · obtain ⟨rfl, rfl, rfl⟩ : g1 = g ∧ t1 = t ∧ c1 = cs := by simpa using e
      exact ⟨Nat.le_trans h.below.size hn, hb⟩
  · rw [List.map_set]
    have hlt : ∀ x ∈ L.map (·.1), x < g := fun x hx => by
      obtain ⟨⟨g1, t1, c1⟩, hm, rfl⟩ := List.mem_map.1 hx
      exact Nat.lt_of_lt_of_le (h.blk g1 t1 c1 hm).2.lt hn
    have hp := h.apart
    generalize L.map (·.1) = l at hlt hp
    clear h hb hi
    induction l generalizing i with
    | nil => exact List.Pairwise.nil
    | cons x l ih =>
      obtain ⟨h1, h2⟩ := List.nodup_cons.1 hp
      cases i with
      | zero =>
        refine List.nodup_cons.2 ⟨fun hm => ?_, h2⟩
        have := hlt g (List.mem_cons_of_mem _ hm)
        omega
      | succ i =>
        refine List.nodup_cons.2 ⟨fun hm => ?_, ih (fun y hy => hlt y (List.mem_cons_of_mem _ hy)) h2⟩
        rcases List.mem_or_eq_of_mem_set hm with hm | e
        · exact h1 hm
        · have := hlt x (List.mem_cons_self ..)
          omega

theorem addr_off (b f q : Nat) : (⟨b, f, none⟩ : Addr).add q = ⟨b, f + q, none⟩ := by unfold Addr.add; split <;> simp_all

section
variable {P : Program} {w0 : World} {n : Nat} {Q : Exit → Act → World → Prop} {F : Slots} {L : Blocks} {ops : Array Oper} {o : Oper} {l : List Oper}

/-- a call whose contract leans on what is known -/
theorem Quiet.callS {v : Value} (f : FuncId) (args : Array Value) (he : ∀ w, (execOp (evF F) o).run P w = .ok (.enter f args) w)
    (h : ∀ w, St w0 w L → Calls P f args w (Gets w v)) : Quiet P w0 F L o v := fun w hw => by
  unfold Gives; rw [he w]; exact h w hw

/-- one cell -/
theorem Writes.one (f : Nat) {g : Nat} {t : TypeId} {cs cs' : Array Value} (ty : TypeId) (v : Value) (x y : Operand) (ho : o.op = .store ty x y) (hx : evF F x = .pointer (some ⟨g, f, none⟩)) (hy : evF F y = v)
    (hi : (P.info? ty).map (·.size) = some 1) (hv : v.cells = #[v]) (h1 : v.oneCell' = true) (hk : f < cs.size) (hcs : cs.setIfInBounds f v = cs') : Writes P F o g t cs cs' :=
  fun w hb => ⟨w.setCell ⟨g, f, none⟩ v, by
    have hth := hb.there f 1 hk
    have hst := run_storeCells_cells (P := P) g f [v] 0 w (fun j hj => by simpa using (hth j hj).1) (fun j hj => by simpa using (hth j hj).2) (fun u hu => by rw [List.mem_singleton.1 hu]; exact h1)
    unfold execOp
    cases hq : P.info? ty with
    | none => simp [hq] at hi
    | some i =>
      have hs : i.size = 1 := by simpa [hq] using hi
      simp only [World.setCells, Nat.add_zero] at hst
      simp [ho, hx, hy, Instr.storeAt, Instr.sureAddr, storeVar, sizeOf, typeInfo, hq, hs, hv, hst, Result.andThen],
    fun B hB => (Below.refl _ _).setCell hB v, hcs ▸ hb.set_ f v, fun k hk t c hc => hc.far hk v⟩

/-- a slice of the call's own grows -/
theorem append (hg : good ops n F o = true) (ts e : TypeId) (inf : TypeInfo) (z : Value) (ht : P.underlying ts = some (.slice e)) (hinf : P.info? e = some inf) (hz : inf.zero = some z) (hs1 : inf.size = 1) (hb1 : inf.bytes = 1) (hzs : z.cells.size = 1)
    (s x : Operand) (ho : o.op = .call { callee := .builtin .append, args := #[s, x], argTypes := #[ts, ts] })
    (i g len cap : Nat) (cs : Array Value) (old : List Value) (hs : evF F s = .slice (some ⟨g, 0, none⟩) len cap) (hL : L[i]? = some (g, e, cs)) (hold : cs.toList.take len = old) (hlen : old.length = len) (hcap : cs.size = cap) (hmax : cap ≤ maxLen)
    (j gx fx m c : Nat) (tx : TypeId) (cx : Array Value) (news : List Value) (hx : evF F x = .slice (some ⟨gx, fx, none⟩) m c) (hLx : L[j]? = some (gx, tx, cx)) (hnews : (cx.toList.drop fx).take m = news) (hm : news.length = m) (h1 : ∀ u ∈ news, u.oneCell' = true) (hsmall : len + m ≤ 140737488355328)
    (h : ∀ (g' cap' : Nat) (sp : List Value), sp.length + (len + m) = cap' → cap' ≤ maxLen → wpS P w0 n ops Q (putF F o.dst (.slice (some ⟨g', 0, none⟩) (len + m) cap')) (L.set i (g', e, (old ++ (news ++ sp)).toArray)) l) : wpS P w0 n ops Q F L (o :: l) := fun a w ha hw => by
  obtain ⟨k1, _, k3, _⟩ := good_spec hg
  refine wpList_step fun K hK => ?_
  rw [if_pos (ha.wanted k1)]
  have hb := hw.get hL
  have hbx := hw.get hLx
  have hle : len ≤ cap := by
    have := congrArg List.length hold
    rw [List.length_take, hlen, Array.length_toList, hcap] at this
    omega
  have hn : ∀ q u, news[q]? = some u → w.cell? ((⟨gx, fx, none⟩ : Addr).add q) = some u := fun q u hq => by
    rw [addr_off, hbx.cell]
    rw [← hnews] at hq
    have hlt : q < m := by
      have := (List.getElem?_eq_some_iff.1 hq).1
      simp at this; omega
    rw [List.getElem?_take_of_lt hlt, List.getElem?_drop] at hq
    simpa using hq
  have hown : w.ownsRow 0 e 1 (.slice (some ⟨g, 0, none⟩) len cap) len old := ⟨by omega, .inr ⟨g, cap, cs, rfl, Nat.zero_le _, hb, hle, hmax, by omega, by rw [Nat.mul_one]; exact hold⟩⟩
  have step : ∀ v' w', (Builtin.append_ #[ts, ts] o.type #[.slice (some ⟨g, 0, none⟩) len cap, .slice (some ⟨gx, fx, none⟩) m c]).run P w = .ok v' w' → K (a.put o.dst v') w' → o.wp P a w K Q := fun v' w' hr hk => by
    unfold Oper.wp
    rw [good_exec hg ha]
    unfold execOp
    simp only [ho, resolve, invoke, builtin, Sem.run_bind, Sem.run_pure, Result.andThen_ok, List.map_toArray, List.map_cons, List.map_nil, hs, hx, hr]
    exact hk
  have last : ∀ (w' : World) (g' cap' : Nat) (cur : Array Value), cur.size = cap' → cap' ≤ maxLen → cur.toList.take (len + m) = old ++ news → St w0 w' (L.set i (g', e, cur)) → K (a.put o.dst (.slice (some ⟨g', 0, none⟩) (len + m) cap')) w' := fun w' g' cap' cur h2 h3 h4 h5 => by
    have hc : cur = (old ++ (news ++ cur.toList.drop (len + m))).toArray := by
      rw [← List.append_assoc, ← h4, List.take_append_drop]
    rw [hc] at h5
    refine hK _ _ (h g' cap' _ ?_ h3 _ _ (ha.put k3 _) h5)
    have := congrArg List.length h4
    rw [List.length_take, List.length_append, Array.length_toList, hlen, hm] at this
    rw [List.length_drop, Array.length_toList]
    omega
  rcases Nat.lt_or_ge cap (len + m) with hlt | hge
  · obtain ⟨v', w', hr, hrow, hgr⟩ := run_append_arg_grows (P := P) w ts o.type e inf z 1 1 ht hinf hz hs1 hb1 hzs (by decide) ⟨g, 0, none⟩ len cap old (by omega) (hown.cells (g := g) rfl) ⟨gx, fx, none⟩ m c news (by omega) hn hlt (by simp only [maxLen]; omega) (by omega)
    refine step v' w' hr ?_
    rcases hrow.2 with ⟨rfl, h0⟩ | ⟨g', cap', cur, rfl, q1, q2, _, q4, q5, q6⟩
    · omega
    · exact last w' g' cap' cur (by omega) q4 (by rw [Nat.mul_one] at q6; exact q6) (hw.setNew (⟨hgr.os, hgr.tape, hgr.output, hgr.size, fun k hk => hgr.block k hk (by simp)⟩) (List.getElem?_eq_some_iff.1 hL).1 q1 q2)
  · obtain ⟨w', hr, hrow, hgr⟩ := run_append_own_spare (P := P) w 0 ts o.type e inf 1 ht hinf hs1 g len cap old hown ⟨gx, fx, none⟩ m c news (by omega) hn h1 hge
    refine step _ w' hr ?_
    rcases hrow.2 with ⟨h0, _⟩ | ⟨g', cap', cur, hv, _, q2, _, q4, q5, q6⟩
    · cases h0
    · cases hv
      exact last w' g cap cur (by omega) q4 (by rw [Nat.mul_one] at q6; exact q6) (hw.set hL (fun B hB => below_of_only hgr (Nat.le_trans hB (Nat.le_of_lt hb.lt)) hB) q2 (fun k hk t c hc => Blk.grown hc hgr (by simpa using hk)))
/-- the first append, to nothing -/
theorem appendNil (hg : good ops n F o = true) (ts e : TypeId) (inf : TypeInfo) (z : Value) (ht : P.underlying ts = some (.slice e)) (hinf : P.info? e = some inf) (hz : inf.zero = some z) (hs1 : inf.size = 1) (hb1 : inf.bytes = 1) (hzs : z.cells.size = 1)
    (s x : Operand) (ho : o.op = .call { callee := .builtin .append, args := #[s, x], argTypes := #[ts, ts] }) (hs : evF F s = .slice none 0 0)
    (j gx fx m c : Nat) (tx : TypeId) (cx : Array Value) (news : List Value) (hx : evF F x = .slice (some ⟨gx, fx, none⟩) m c) (hLx : L[j]? = some (gx, tx, cx)) (hnews : (cx.toList.drop fx).take m = news) (hm : news.length = m) (hm0 : 0 < m) (h1 : ∀ u ∈ news, u.oneCell' = true) (hsmall : m ≤ 140737488355328)
    (h : ∀ (g' cap' : Nat) (sp : List Value), sp.length + m = cap' → cap' ≤ maxLen → wpS P w0 n ops Q (putF F o.dst (.slice (some ⟨g', 0, none⟩) m cap')) (L ++ [(g', e, (news ++ sp).toArray)]) l) : wpS P w0 n ops Q F L (o :: l) := fun a w ha hw => by
  obtain ⟨k1, _, k3, _⟩ := good_spec hg
  refine wpList_step fun K hK => ?_
  rw [if_pos (ha.wanted k1)]
  have hbx := hw.get hLx
  have hn : ∀ q u, news[q]? = some u → w.cell? ((⟨gx, fx, none⟩ : Addr).add q) = some u := fun q u hq => by
    rw [addr_off, hbx.cell]
    rw [← hnews] at hq
    have hlt : q < m := by
      have := (List.getElem?_eq_some_iff.1 hq).1
      simp at this; omega
    rw [List.getElem?_take_of_lt hlt, List.getElem?_drop] at hq
    simpa using hq
  obtain ⟨v', w', hr, hrow, hgr, hnil⟩ := run_append_own (P := P) w w.heap.size ts o.type e inf z 1 1 ht hinf hz hs1 hb1 hzs (by decide) (.slice none 0 0) 0 [] (World.ownsRow_nil w _ e 1) ⟨gx, fx, none⟩ m c news (by omega) hn h1 (by simp only [maxLen]; omega) (by omega) (Nat.le_refl _)
  rcases hrow.2 with ⟨_, h0⟩ | ⟨g', cap', cur, rfl, q1, q2, _, q4, q5, q6⟩
  · omega
  have q6' : cur.toList.take m = news := by simpa using q6
  unfold Oper.wp
  rw [good_exec hg ha]
  unfold execOp
  simp only [ho, resolve, invoke, builtin, Sem.run_bind, Sem.run_pure, Result.andThen_ok, List.map_toArray, List.map_cons, List.map_nil, hs, hx, hr]
  have hc : cur = (news ++ cur.toList.drop m).toArray := by rw [← q6', List.take_append_drop]
  rw [hc] at q2
  rw [Nat.zero_add]
  refine hK _ _ (h g' cap' _ ?_ q4 _ _ (ha.put k3 _) (hw.add (⟨hgr.os, hgr.tape, hgr.output, hgr.size, fun k hk => hgr.block k hk (by simp [Value.ownBlock])⟩) q1 q2))
  have := congrArg List.length q6'
  rw [List.length_take, hm, Array.length_toList] at this
  rw [List.length_drop, Array.length_toList]
  omega

/-! ## Loops -/
/-- so many rounds, from what is known -/
def wpR (P : Program) (w0 : World) (n : Nat) (c : Code) (Q : Exit → Act → World → Prop) (k : Nat) (F : Slots) (L : Blocks) : Prop := ∀ a w, Fr a n F → St w0 w L → Code.rounds P c Q k a w
theorem loopN {c : Code} (k : Nat) (h : wpR P w0 n c Q k F L) : wpC P w0 n Q F L (.loop c) := fun a w ha hw => wp_loop_rounds k (h a w ha hw)
theorem round {c : Code} {k : Nat} (h : wpC P w0 n (Exit.then (Code.rounds P c Q k) Q) F L c) : wpR P w0 n c Q (k + 1) F L := fun a w ha hw => h a w ha hw
theorem again {c : Code} {k : Nat} {R : Exit → Act → World → Prop} (h : wpR P w0 n c Q k F L) : X w0 n (Exit.then (Code.rounds P c Q k) R) F L .normal := fun a w ha hw => h a w ha hw
/-- at most N rounds and one more, I i being known at the head of round i -/
theorem loopI {c : Code} (N : Nat) (I : Nat → Act → World → Prop) (h0 : ∀ a w, Fr a n F → St w0 w L → I 0 a w)
    (hr : ∀ i, i ≤ N → ∀ a w, I i a w → c.wp P (Exit.then (fun a w => i < N ∧ I (i + 1) a w) Q) a w) : wpC P w0 n Q F L (.loop c) := fun a w ha hw => by
  refine wp_loop_rounds (N + 1) ?_
  have key : ∀ k i, i + k = N → ∀ a w, I i a w → Code.rounds P c Q (k + 1) a w := by
    intro k
    induction k with
    | zero =>
      intro i hi a w h
      refine wp_mono (hr i (by omega) a w h) fun e a w hq => ?_
      cases e <;> first | exact hq | exact absurd hq.1 (by omega)
    | succ k ih =>
      intro i hi a w h
      refine wp_mono (hr i (by omega) a w h) fun e a w hq => ?_
      cases e <;> first | exact hq | exact ih (i + 1) (by omega) a w hq.2
  exact key N 0 (by omega) a w (h0 a w ha hw)
/-- the state at the head of a round as two lists -/
theorem inv {c : Code} {i : Nat} {I : Nat → Act → World → Prop} {a : Act} {w : World} (h : wpC P w0 n Q F L c) (hi : I i a w) (hI : I i a w → Fr a n F ∧ St w0 w L) : c.wp P Q a w := h a w (hI hi).1 (hI hi).2
theorem lookup_all : ∀ (G : Slots), (∀ p ∈ G, F.lookup p.1 = some p.2) → ∀ i v, G.lookup i = some v → F.lookup i = some v
  | [], _, _, _, h => by cases h
  | (q, u) :: G, hG, i, v, h => by
    simp only [List.lookup_cons] at h
    by_cases e : i = q
    · subst e
      simp at h
      subst h
      exact hG (i, u) (List.mem_cons_self ..)
    · have e' : (i == q) = false := by simpa using e
      rw [e'] at h
      exact lookup_all G (fun p hp => hG p (List.mem_cons_of_mem _ hp)) i v h
theorem Fr.all {a : Act} (h : Fr a n F) {G : Slots} (hG : ∀ p ∈ G, F.lookup p.1 = some p.2) : Fr a n G := h.less (lookup_all G hG)
theorem all_nil : ∀ p ∈ ([] : Slots), F.lookup p.1 = some p.2 := fun _ h => by cases h
theorem all_cons {G : Slots} {i : Nat} {v : Value} (h : F.lookup i = some v) (hG : ∀ p ∈ G, F.lookup p.1 = some p.2) : ∀ p ∈ (i, v) :: G, F.lookup p.1 = some p.2 := fun p hp => by
  rcases List.mem_cons.1 hp with rfl | hp
  · exact h
  · exact hG p hp

/-! ## Less is known -/
/-- some of the blocks -/
def sel : Blocks → List Bool → Blocks
  | x :: l, true :: m => x :: sel l m
  | _ :: l, false :: m => sel l m
  | _, _ => []
theorem sel_sub : ∀ (l : Blocks) (m : List Bool), (sel l m).Sublist l
  | [], [] => List.Sublist.slnil
  | [], _ :: _ => by simp [sel]
  | _ :: _, [] => by simp [sel]
  | _ :: l, true :: m => (sel_sub l m).cons_cons _
  | _ :: l, false :: m => (sel_sub l m).cons _
theorem tidy {c : Code} {G : Slots} {M : Blocks} (m : List Bool) (hM : sel L m = M) (hF : ∀ p ∈ G, F.lookup p.1 = some p.2) (h : wpC P w0 n Q G M c) : wpC P w0 n Q F L c := fun a w ha hw => h a w (ha.all hF) (hM ▸ hw.less (sel_sub L m))
theorem tidyR {c : Code} {k : Nat} {G : Slots} {M : Blocks} (m : List Bool) (hM : sel L m = M) (hF : ∀ p ∈ G, F.lookup p.1 = some p.2) (h : wpR P w0 n c Q k G M) : wpR P w0 n c Q k F L := fun a w ha hw => h a w (ha.all hF) (hM ▸ hw.less (sel_sub L m))

/-- memory that was there before the call -/
theorem Quiet.there (g f k : Nat) (ty : TypeId) (cs : List Value) (d : TypeDesc) (x : Operand) (ho : o.op = .load ty x) (hx : evF F x = .pointer (some ⟨g, f, none⟩)) (hg : g < w0.heap.size) (hr : w0.rangeAt g f cs)
    (hu : P.underlying ty = some d) (hd : d.isRow = true) (hi : (P.info? ty).map (·.size) = some k) (hk : cs.length = k) (v : Value) (hv : Value.agg cs.toArray = v) : Quiet P w0 F L o v := fun w hw => by
  have hl := run_loadVar_mid (P := P) w g f ty cs d (fun j u hj => (Below.cell (p := ⟨g, f + j, none⟩) hw.below hg).trans (hr j u hj)) hu hd (by rw [hi, hk])
  unfold Gives execOp
  simp only [ho, hx, Instr.loadAt, Instr.sureAddr, Sem.run_bind, Sem.run_pure, Result.andThen_ok, hl]
  exact ⟨hv, Gr.refl _⟩
theorem Quiet.thereOne (g f : Nat) (ty : TypeId) (d : TypeDesc) (x : Operand) (ho : o.op = .load ty x) (hx : evF F x = .pointer (some ⟨g, f, none⟩)) (hg : g < w0.heap.size) (v : Value) (hr : w0.cell? ⟨g, f, none⟩ = some v)
    (hu : P.underlying ty = some d) (hd : d.isRow = false) : Quiet P w0 F L o v := fun w hw => by
  have hc : w.cell? ⟨g, f, none⟩ = some v := (Below.cell (p := ⟨g, f, none⟩) hw.below hg).trans hr
  have ha : (isAgg ty).run P w = .ok false w := by
    cases d <;> first | (cases hd; done) | simp [isAgg, underlying, hu]
  unfold Gives execOp
  simp only [ho, hx, Instr.loadAt, Instr.sureAddr, Sem.run_bind, Sem.run_pure, Result.andThen_ok, loadVar, ha, Bool.false_eq_true, if_false, run_load, hc]
  exact ⟨trivial, Gr.refl _⟩
end
end Go.Proofs.Ytlojidnlkflpnaa.Sy
