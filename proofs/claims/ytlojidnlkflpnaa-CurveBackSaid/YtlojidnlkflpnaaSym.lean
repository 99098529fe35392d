/-
  A walk by what is known: slots and blocks of the call's own as two lists. Each operation turns the lists; the worlds themselves are never named. No function of the program stands here.
-/
import Derived.Test.YtlojidnlkflpnaaFeOrd
import Derived.Test.YtlojidnlkflpnaaOrdV
import Derived.Test.YtlojidnlkflpnaaOrd4
namespace Go.Proofs.Ytlojidnlkflpnaa.Sy
open Go.RowKit Go.Proofs.Ytlojidnlkflpnaa

/-- slots that are known, the newest first -/
abbrev Slots := List (Nat × Value)
/-- blocks of the call's own -/
abbrev Blocks := List (Nat × TypeId × Array Value)

def Fr (a : Act) (n : Nat) (F : Slots) : Prop := a.defers = [] ∧ a.tmps.size = n ∧ ∀ i v, F.lookup i = some v → a.tmps[i]? = some v
def evF (F : Slots) : Operand → Value
  | .tmp t => (F.lookup t).getD undef
  | .const v => v
  | .global g => .pointer (some ⟨g, 0, none⟩)
  | .func f => .func (.func f) #[] #[]
def inF (F : Slots) : Operand → Bool
  | .tmp t => (F.lookup t).isSome
  | _ => true
def putF (F : Slots) : Option Tmp → Value → Slots
  | none, _ => F
  | some d, v => (d, v) :: F
def fits (n : Nat) : Option Tmp → Bool
  | none => true
  | some d => decide (d < n)
theorem Fr.eval {a : Act} {n : Nat} {F : Slots} (h : Fr a n F) {x : Operand} (hx : inF F x = true) : a.eval x = evF F x := by
  cases x with
  | tmp t =>
    obtain ⟨v, hv⟩ := Option.isSome_iff_exists.1 hx
    have := h.2.2 t v hv
    show a.tmps.getD t undef = (F.lookup t).getD undef
    rw [hv]
    simp [Array.getD_eq_getD_getElem?, this]
  | const v => rfl
  | global g => rfl
  | func f => rfl
theorem Fr.put {a : Act} {n : Nat} {F : Slots} (h : Fr a n F) {d : Option Tmp} (hd : fits n d = true) (v : Value) : Fr (a.put d v) n (putF F d v) := by
  cases d with
  | none => exact h
  | some d =>
    have hd' : d < n := of_decide_eq_true hd
    refine ⟨h.1, by simp [Act.put, h.2.1], fun i u hi => ?_⟩
    simp only [putF, List.lookup_cons] at hi
    simp only [Act.put]
    by_cases e : i = d
    · subst e
      simp at hi
      subst hi
      rw [Array.getElem?_setIfInBounds_self_of_lt (by rw [h.2.1]; exact hd')]
    · have e' : (i == d) = false := by simpa using e
      rw [e'] at hi
      rw [Array.getElem?_setIfInBounds_ne (Ne.symm e)]
      exact h.2.2 i u hi
theorem Fr.less {a : Act} {n : Nat} {F G : Slots} (h : Fr a n F) (hG : ∀ i v, G.lookup i = some v → F.lookup i = some v) : Fr a n G := ⟨h.1, h.2.1, fun i v hi => h.2.2 i v (hG i v hi)⟩

/-- what is known of the world: it grew, and these blocks of the call's own are whole -/
structure St (w0 w : World) (L : Blocks) : Prop where
  below : Below w0.heap.size w0 w
  blk : ∀ g t cs, (g, t, cs) ∈ L → w0.heap.size ≤ g ∧ Blk w g t cs
  apart : (L.map (·.1)).Nodup
theorem St.start (w : World) : St w w [] := ⟨Below.refl _ _, (fun _ _ _ h => by cases h), List.Pairwise.nil⟩
theorem St.gr {w0 w w' : World} {L : Blocks} (h : St w0 w L) (hg : Gr w w') : St w0 w' L :=
  ⟨Below.gr h.below hg, fun g t cs hm => ⟨(h.blk g t cs hm).1, hg.blk (h.blk g t cs hm).2⟩, h.apart⟩
theorem St.get {w0 w : World} {L : Blocks} (h : St w0 w L) {i g : Nat} {t : TypeId} {cs : Array Value} (hi : L[i]? = some (g, t, cs)) : Blk w g t cs := (h.blk g t cs (List.mem_of_getElem? hi)).2
theorem St.add {w0 w w' : World} {L : Blocks} (h : St w0 w L) (hg : Gr w w') {g : Nat} {t : TypeId} {cs : Array Value} (hn : w.heap.size ≤ g) (hb : Blk w' g t cs) : St w0 w' (L ++ [(g, t, cs)]) := by
  refine ⟨Below.gr h.below hg, fun g' t' cs' hm => ?_, ?_⟩
  · rcases List.mem_append.1 hm with hm | hm
    · exact ⟨(h.blk g' t' cs' hm).1, hg.blk (h.blk g' t' cs' hm).2⟩
    · obtain ⟨rfl, rfl, rfl⟩ : g' = g ∧ t' = t ∧ cs' = cs := by simpa using hm
      exact ⟨Nat.le_trans h.below.size hn, hb⟩
  · rw [List.map_append, List.nodup_append]
    refine ⟨h.apart, by simp, fun x hx y hy e => ?_⟩
    obtain ⟨⟨g', t', cs'⟩, hm, rfl⟩ := List.mem_map.1 hx
    have hlt := (h.blk g' t' cs' hm).2.lt
    have : y = g := by simpa using hy
    omega
theorem St.set {w0 w w' : World} {L : Blocks} (h : St w0 w L) {i g : Nat} {t : TypeId} {cs cs' : Array Value} (hi : L[i]? = some (g, t, cs)) (hb : ∀ B, B ≤ g → Below B w w') (hn : Blk w' g t cs')
    (hf : ∀ k, k ≠ g → ∀ t c, Blk w k t c → Blk w' k t c) : St w0 w' (L.set i (g, t, cs')) := by
  have hil := (List.getElem?_eq_some_iff.1 hi).1
  have hie := (List.getElem?_eq_some_iff.1 hi).2
  refine ⟨h.below.trans (hb _ (h.blk g t cs (List.mem_of_getElem? hi)).1), fun g1 t1 c1 hm => ?_, ?_⟩
  · obtain ⟨j, hj⟩ := List.getElem?_of_mem hm
    rw [List.getElem?_set] at hj
    by_cases e : i = j
    · subst e
      rw [if_pos rfl, if_pos hil] at hj
      obtain ⟨rfl, rfl, rfl⟩ : g = g1 ∧ t = t1 ∧ cs' = c1 := by simpa using hj
      exact ⟨(h.blk g t cs (List.mem_of_getElem? hi)).1, hn⟩
    · rw [if_neg e] at hj
      have hm1 := h.blk g1 t1 c1 (List.mem_of_getElem? hj)
      refine ⟨hm1.1, hf g1 (fun eg => e ?_) t1 c1 hm1.2⟩
      subst eg
      have hjl := (List.getElem?_eq_some_iff.1 hj).1
      have hje := (List.getElem?_eq_some_iff.1 hj).2
      have hp := List.pairwise_iff_getElem.1 h.apart
      rcases Nat.lt_trichotomy i j with hlt | he | hlt
      · exact (hp i j (by simpa using hil) (by simpa using hjl) hlt (by simp [hie, hje])).elim
      · exact he
      · exact (hp j i (by simpa using hjl) (by simpa using hil) hlt (by simp [hie, hje])).elim
  · rw [List.map_set]
    have : (L.map (·.1)).set i g = L.map (·.1) := by
      apply List.ext_getElem?
      intro j
      rw [List.getElem?_set]
      by_cases e : i = j
      · subst e
        rw [if_pos rfl, if_pos (by simpa using hil)]
        simp [hi]
      · rw [if_neg e]
    show ((L.map (·.1)).set i g).Nodup
    rw [this]
    exact h.apart
theorem St.less {w0 w : World} {L M : Blocks} (h : St w0 w L) (hs : M.Sublist L) : St w0 w M :=
  ⟨h.below, fun g t cs hm => h.blk g t cs (hs.subset hm), h.apart.sublist (hs.map _)⟩

/-! ## What an operation does -/
/-- it is wanted (b), or passed over -/
def wantedF (ops : Array Oper) (F : Slots) (o : Oper) : Option Bool :=
  match o.guard with
  | none => some true
  | some (j, want) => match (ops[j]?).bind (·.dst) with
    | none => some false
    | some t => match F.lookup t with
      | some (.bool b) => some (b == want)
      | some _ => some false
      | none => none
theorem Fr.wanted {a : Act} {n : Nat} {F : Slots} (h : Fr a n F) {ops : Array Oper} {o : Oper} {b : Bool} (hw : wantedF ops F o = some b) : Region.wanted o (yielded ops a.tmps) = b := by
  unfold wantedF at hw
  unfold Region.wanted
  cases hg : o.guard with
  | none => rw [hg] at hw; simpa using hw
  | some jw =>
    obtain ⟨j, want⟩ := jw
    rw [hg] at hw
    simp only at hw ⊢
    cases hd : (ops[j]?).bind (·.dst) with
    | none =>
      rw [hd] at hw
      simp only [yielded, hd, Option.bind_none] at hw ⊢
      simpa using hw
    | some t =>
      rw [hd] at hw
      simp only at hw
      cases hl : F.lookup t with
      | none => rw [hl] at hw; cases hw
      | some v =>
        have hv := h.2.2 t v hl
        rw [hl] at hw
        simp only [yielded, hd, Option.bind_some, hv]
        cases v <;> simp at hw ⊢ <;> exact hw
/-- all that is asked of an operation that is carried out, as one Bool: its operands are known, its slot is one of the frame's -/
def good (ops : Array Oper) (n : Nat) (F : Slots) (o : Oper) : Bool :=
  (wantedF ops F o == some true) && o.op.operands.all (inF F) && fits n o.dst && (match o.op with | .select .. => false | _ => true)
theorem good_spec {ops : Array Oper} {n : Nat} {F : Slots} {o : Oper} (h : good ops n F o = true) : wantedF ops F o = some true ∧ (∀ x ∈ o.op.operands, inF F x = true) ∧ fits n o.dst = true ∧ ∀ cs b, o.op ≠ .select cs b := by
  unfold good at h
  simp only [Bool.and_eq_true, beq_iff_eq] at h
  obtain ⟨⟨⟨h1, h2⟩, h3⟩, h4⟩ := h
  refine ⟨h1, Array.all_eq_true_iff_forall_mem.1 h2, h3, fun cs b e => ?_⟩
  rw [e] at h4
  cases h4
theorem good_exec {ops : Array Oper} {n : Nat} {F : Slots} {o : Oper} (h : good ops n F o = true) {a : Act} (ha : Fr a n F) : execOp a.eval o = execOp (evF F) o :=
  execOp_congr o (good_spec h).2.2.2 fun x hx => ha.eval ((good_spec h).2.1 x (by simpa using hx))

/-- an operation that gives v, whatever the world, and lets it only grow -/
def Quiet (P : Program) (w0 : World) (F : Slots) (L : Blocks) (o : Oper) (v : Value) : Prop := ∀ w, St w0 w L → Gives P (execOp (evF F) o) v w
theorem Quiet.pure {P : Program} {w0 : World} {F : Slots} {L : Blocks} {o : Oper} {v : Value} (h : ∀ w, (execOp (evF F) o).run P w = .ok (.value v) w) : Quiet P w0 F L o v := fun w _ => by
  unfold Gives; rw [h w]; exact ⟨rfl, Gr.refl _⟩
theorem Quiet.call {P : Program} {w0 : World} {F : Slots} {L : Blocks} {o : Oper} {v : Value} (f : FuncId) (args : Array Value) (he : ∀ w, (execOp (evF F) o).run P w = .ok (.enter f args) w)
    (h : ∀ w, Calls P f args w fun e w' => e = .returned v ∧ Below w.heap.size w w') : Quiet P w0 F L o v := fun w _ => by
  unfold Gives; rw [he w]; exact h w
/-- a load of an array or a struct -/
theorem Quiet.load {P : Program} {w0 : World} {F : Slots} {L : Blocks} {o : Oper} (i g f k : Nat) (t ty : TypeId) (cs : Array Value) (d : TypeDesc) (x : Operand) (ho : o.op = .load ty x) (hx : evF F x = .pointer (some ⟨g, f, none⟩))
    (hL : L[i]? = some (g, t, cs)) (hu : P.underlying ty = some d) (hd : d.isRow = true) (hi : (P.info? ty).map (·.size) = some k) (v : Value) (hv : Value.agg ((cs.toList.drop f).take k).toArray = v) (hk : f + k ≤ cs.size) : Quiet P w0 F L o v := fun w hw => by
  have hb := hw.get hL
  have hl := run_loadVar_mid (P := P) w g f ty ((cs.toList.drop f).take k) d (fun j u hj => by
    rw [hb.cell]
    have hlt : j < k := by
      have := (List.getElem?_eq_some_iff.1 hj).1
      simp at this; omega
    rw [List.getElem?_take_of_lt hlt, List.getElem?_drop] at hj
    simpa using hj) hu hd (by rw [hi]; simp; omega)
  unfold Gives execOp
  simp only [ho, hx, Instr.loadAt, Instr.sureAddr, Sem.run_bind, Sem.run_pure, Result.andThen_ok, hl]
  exact ⟨hv, Gr.refl _⟩
/-- a load of one cell -/
theorem Quiet.cell {P : Program} {w0 : World} {F : Slots} {L : Blocks} {o : Oper} (i g f : Nat) (t ty : TypeId) (cs : Array Value) (d : TypeDesc) (x : Operand) (ho : o.op = .load ty x) (hx : evF F x = .pointer (some ⟨g, f, none⟩))
    (hL : L[i]? = some (g, t, cs)) (hu : P.underlying ty = some d) (hd : d.isRow = false) (v : Value) (hv : cs[f]? = some v) : Quiet P w0 F L o v := fun w hw => by
  have hb := hw.get hL
  have hc : w.cell? ⟨g, f, none⟩ = some v := (hb.cell f).trans hv
  have ha : (isAgg ty).run P w = .ok false w := by
    cases d <;> first | (cases hd; done) | simp [isAgg, underlying, hu]
  unfold Gives execOp
  simp only [ho, hx, Instr.loadAt, Instr.sureAddr, Sem.run_bind, Sem.run_pure, Result.andThen_ok, loadVar, ha, Bool.false_eq_true, if_false, run_load, hc]
  exact ⟨trivial, Gr.refl _⟩

/-! ## The judgements -/
section
variable {P : Program} {w0 : World} {n : Nat}
/-- from any frame and world of which F and L are known, the code leads to Q -/
def wpC (P : Program) (w0 : World) (n : Nat) (Q : Exit → Act → World → Prop) (F : Slots) (L : Blocks) (c : Code) : Prop := ∀ a w, Fr a n F → St w0 w L → c.wp P Q a w
/-- .. the rest of a region's list .. -/
def wpS (P : Program) (w0 : World) (n : Nat) (ops : Array Oper) (Q : Exit → Act → World → Prop) (F : Slots) (L : Blocks) (l : List Oper) : Prop := ∀ a w, Fr a n F → St w0 w L → wpList P ops Q l a w
/-- .. a region that draws its order, of which some are carried out .. -/
def wpD (P : Program) (w0 : World) (n : Nat) (ops : Array Oper) (Q : Exit → Act → World → Prop) (ex : Nat → Bool) (F : Slots) (L : Blocks) (fuel : Nat) (listed : Array Bool) : Prop := ∀ a w, Fr a n F → St w0 w L → wpAnyG P .any ops Q ex fuel listed a w
/-- .. an exit -/
def X (w0 : World) (n : Nat) (Q : Exit → Act → World → Prop) (F : Slots) (L : Blocks) (e : Exit) : Prop := ∀ a w, Fr a n F → St w0 w L → Q e a w

variable {Q : Exit → Act → World → Prop} {F : Slots} {L : Blocks}
theorem seq {x y : Code} (h : wpC P w0 n (Exit.then (y.wp P Q) Q) F L x) : wpC P w0 n Q F L (.seq x y) := fun a w ha hw => wp_seq (h a w ha hw)
theorem then_ {y : Code} (h : wpC P w0 n Q F L y) : X w0 n (Exit.then (y.wp P Q) Q) F L .normal := h
theorem then_ret {K : Act → World → Prop} (h : X w0 n Q F L .ret) : X w0 n (Exit.then K Q) F L .ret := h
theorem then_exit {K : Act → World → Prop} {i : Nat} (h : X w0 n Q F L (.exit i)) : X w0 n (Exit.then K Q) F L (.exit i) := h
theorem block {i : Nat} {c : Code} (h : wpC P w0 n (Exit.inBlock i Q) F L c) : wpC P w0 n Q F L (.block i c) := fun a w ha hw => wp_block (h a w ha hw)
theorem in_ {i : Nat} (h : X w0 n Q F L .normal) : X w0 n (Exit.inBlock i Q) F L .normal := h
theorem in_ret {i : Nat} (h : X w0 n Q F L .ret) : X w0 n (Exit.inBlock i Q) F L .ret := h
theorem in_exit {i : Nat} (h : X w0 n Q F L .normal) : X w0 n (Exit.inBlock i Q) F L (.exit i) := fun a w ha hw => by
  show if i = i then Q .normal a w else Q (.exit i) a w
  rw [if_pos rfl]; exact h a w ha hw
theorem in_pass {i j : Nat} (hne : j ≠ i) (h : X w0 n Q F L (.exit j)) : X w0 n (Exit.inBlock i Q) F L (.exit j) := fun a w ha hw => by
  show if j = i then Q .normal a w else Q (.exit j) a w
  rw [if_neg hne]; exact h a w ha hw
theorem skip (h : X w0 n Q F L .normal) : wpC P w0 n Q F L .skip := fun a w ha hw => wp_skip (h a w ha hw)
theorem ret (h : X w0 n Q F L .ret) : wpC P w0 n Q F L .ret := fun a w ha hw => wp_ret (h a w ha hw)
theorem exit {i : Nat} (h : X w0 n Q F L (.exit i)) : wpC P w0 n Q F L (.exit i) := fun a w ha hw => wp_exit (h a w ha hw)
theorem cond_t {c : Operand} {x y : Code} (hi : inF F c = true) (hc : evF F c = .bool true) (h : wpC P w0 n Q F L x) : wpC P w0 n Q F L (.cond c x y) := fun a w ha hw => wp_cond_true ((ha.eval hi).trans hc) (h a w ha hw)
theorem cond_f {c : Operand} {x y : Code} (hi : inF F c = true) (hc : evF F c = .bool false) (h : wpC P w0 n Q F L y) : wpC P w0 n Q F L (.cond c x y) := fun a w ha hw => wp_cond_false ((ha.eval hi).trans hc) (h a w ha hw)
theorem less {c : Code} {G : Slots} {M : Blocks} (hF : ∀ i v, G.lookup i = some v → F.lookup i = some v) (hL : M.Sublist L) (h : wpC P w0 n Q G M c) : wpC P w0 n Q F L c := fun a w ha hw => h a w (ha.less hF) (hw.less hL)

/-! a region carried out in the order of its list -/
variable {ops : Array Oper} {o : Oper} {l : List Oper}
theorem region {i : Nat} (h : wpS P w0 n ops Q F L ops.toList) : wpC P w0 n Q F L (.region i ops false) := fun a w ha hw => wp_region_list (h a w ha hw)
theorem nil (h : X w0 n Q F L .normal) : wpS P w0 n ops Q F L [] := fun a w ha hw => wpList_nil (h a w ha hw)
theorem step (hg : good ops n F o = true) (v : Value) (hq : Quiet P w0 F L o v) (h : wpS P w0 n ops Q (putF F o.dst v) L l) : wpS P w0 n ops Q F L (o :: l) := fun a w ha hw => by
  obtain ⟨g1, _, g3, _⟩ := good_spec hg
  refine wpList_step fun K hK => ?_
  rw [if_pos (ha.wanted g1)]
  have h0 := hq w hw
  have he := good_exec hg ha
  unfold Gives at h0
  unfold Oper.wp
  rw [he]
  generalize (execOp (evF F) o).run P w = r at *
  cases r with
  | ok x w' =>
    cases x <;> simp only [Oper.upon] at h0 ⊢
    case value u => rw [h0.1]; exact hK _ _ (h _ _ (ha.put g3 v) (hw.gr h0.2))
    case skip => rw [← h0.1]; exact hK _ _ (h _ _ (ha.put g3 v) (hw.gr h0.2))
    case enter f args =>
      refine Calls.mono h0 fun e w'' he => ?_
      rw [he.1]
      exact hK _ _ (h _ _ (ha.put g3 v) (hw.gr he.2))
  | halt x w' => cases x <;> exact h0.elim
theorem pass (hg : wantedF ops F o = some false) (hd : fits n o.dst = true) (h : wpS P w0 n ops Q (putF F o.dst undef) L l) : wpS P w0 n ops Q F L (o :: l) := fun a w ha hw => by
  refine wpList_step fun K hK => ?_
  rw [if_neg (by rw [ha.wanted hg]; exact Bool.false_ne_true)]
  exact hK _ _ (h _ _ (ha.put hd undef) hw)
/-- an operation that makes a block of the call's own -/
def Makes (P : Program) (F : Slots) (o : Oper) (t : TypeId) (cs : Array Value) (val : Nat → Value) : Prop := ∀ w, (execOp (evF F) o).run P w = .ok (.value (val w.heap.size)) (w.alloc (.cells cs t))
/-- the address of a block -/
def ptr (g : Nat) : Value := .pointer (some ⟨g, 0, none⟩)
theorem make (hg : good ops n F o = true) (t : TypeId) (cs : Array Value) (val : Nat → Value) (hm : Makes P F o t cs val) (h : ∀ g, wpS P w0 n ops Q (putF F o.dst (val g)) (L ++ [(g, t, cs)]) l) : wpS P w0 n ops Q F L (o :: l) := fun a w ha hw => by
  obtain ⟨g1, _, g3, _⟩ := good_spec hg
  refine wpList_step fun K hK => ?_
  rw [if_pos (ha.wanted g1)]
  unfold Oper.wp
  rw [good_exec hg ha, hm w]
  exact hK _ _ (h w.heap.size _ _ (ha.put g3 _) (hw.add (gr_alloc w _) (Nat.le_refl _) (Blk.new w t cs)))
/-- an operation that writes into a block of the call's own -/
def Writes (P : Program) (F : Slots) (o : Oper) (g : Nat) (t : TypeId) (cs cs' : Array Value) : Prop :=
  ∀ w, Blk w g t cs → ∃ w', (execOp (evF F) o).run P w = .ok .skip w' ∧ (∀ B, B ≤ g → Below B w w') ∧ Blk w' g t cs' ∧ ∀ k, k ≠ g → ∀ t c, Blk w k t c → Blk w' k t c
theorem Writes.store {F : Slots} {o : Oper} (f : Nat) {g : Nat} {t : TypeId} {cs cs' : Array Value} (ty : TypeId) (cells : Array Value) (x y : Operand) (ho : o.op = .store ty x y) (hx : evF F x = .pointer (some ⟨g, f, none⟩)) (hy : evF F y = .agg cells)
    (hi : (P.info? ty).map (·.size) = some cells.size) (hk : f + cells.size ≤ cs.size) (h1 : cells.all (·.oneCell') = true) (hcs : setAll cs f cells.toList = cs') : Writes P F o g t cs cs' :=
  fun w hb => ⟨w.setCells g f cells.toList, by
    unfold execOp
    simp only [ho, hx, hy, run_storeAt_mid w g f ty cells (hb.there f cells.size hk) hi h1, Sem.run_bind, Sem.run_pure, Result.andThen_ok],
    fun B hB => by
      have := only_setCells cells.toList f w (World.grownBy.refl w (some g))
      exact below_of_only this (Nat.le_trans hB (Nat.le_of_lt hb.lt)) hB,
    hcs ▸ Blk.setCells cells.toList f w cs hb,
    fun k hk t c hc => Blk.grown hc (only_setCells cells.toList f w (World.grownBy.refl w (some g))) (by simpa using hk)⟩
theorem write (hg : good ops n F o = true) (i g : Nat) (t : TypeId) (cs cs' : Array Value) (hL : L[i]? = some (g, t, cs)) (hm : Writes P F o g t cs cs') (h : wpS P w0 n ops Q (putF F o.dst undef) (L.set i (g, t, cs')) l) : wpS P w0 n ops Q F L (o :: l) := fun a w ha hw => by
  obtain ⟨g1, _, g3, _⟩ := good_spec hg
  obtain ⟨w', h1, h2, h3, h4⟩ := hm w (hw.get hL)
  refine wpList_step fun K hK => ?_
  rw [if_pos (ha.wanted g1)]
  unfold Oper.wp
  rw [good_exec hg ha, h1]
  exact hK _ _ (h _ _ (ha.put g3 _) (hw.set hL h2 h3 h4))

/-! a region that draws its order -/
variable {ex : Nat → Bool} {fuel : Nat} {listed : Array Bool}
theorem regionD {i : Nat} (ex : Nat → Bool) (hm : P.follows .mixedOrders = true) (h : wpD P w0 n ops Q ex F L ops.size (Array.replicate ops.size false)) : wpC P w0 n Q F L (.region i ops true) := fun a w ha hw => wp_region_G ex hm (h a w ha hw)
theorem doneD (hr : Region.ready .any ops listed = []) (h : X w0 n Q F L .normal) : wpD P w0 n ops Q ex F L fuel listed := fun a _ ha hw => wpAnyG_done hr fun w1 h1 => h a w1 ha (hw.gr h1)
theorem quiet_yields {o : Oper} {v : Value} {a : Act} {w : World} (hg : good ops n F o = true) (hq : Quiet P w0 F L o v) (ha : Fr a n F) (hw : St w0 w L) : YieldsG P ops o v a w :=
  .inl ⟨ha.wanted (good_spec hg).1, fun w1 h1 => by rw [good_exec hg ha]; exact hq w1 (hw.gr h1)⟩
theorem stepD (i : Nat) {oi : Oper} (hi0 : ops.toList[i]? = some oi) (hc : canTake .any ops listed ex i = true) (hQ : ∀ c v a w, Q (.panic c) (a.put oi.dst v) w → Q (.panic c) a w)
    (hg : good ops n F oi = true) (v : Value) (hq : Quiet P w0 F L oi v) (h : wpD P w0 n ops Q ex (putF F oi.dst v) L fuel (listed.setIfInBounds i true)) : wpD P w0 n ops Q ex F L (fuel + 1) listed := fun _ _ ha hw =>
  wpAnyG_take i hi0 hc (fun c => hQ c v) (quiet_yields hg hq ha hw) (h _ _ (ha.put (good_spec hg).2.2.1 v) hw)
theorem stepDB (i : Nat) (bs : List Nat) {oi : Oper} (hi0 : ops.toList[i]? = some oi) (hc : canTakeB .any ops listed ex i bs = true) (hQ : ∀ c v a w, Q (.panic c) (a.put oi.dst v) w → Q (.panic c) a w)
    (hg : good ops n F oi = true) (v : Value) (hq : Quiet P w0 F L oi v) (h : wpD P w0 n ops Q ex (putF F oi.dst v) L fuel (listed.setIfInBounds i true)) : wpD P w0 n ops Q ex F L (fuel + 1) listed := fun _ _ ha hw =>
  wpAnyG_takeB i bs hi0 hc (fun c => hQ c v) (quiet_yields hg hq ha hw) (h _ _ (ha.put (good_spec hg).2.2.1 v) hw)
/-- .. one that looks at no memory, and may stand behind a store -/
theorem stepDA (i : Nat) {oi : Oper} (hi0 : ops.toList[i]? = some oi) (hc : canTakeA .any ops listed i = true) (hQ : ∀ c v a w, Q (.panic c) (a.put oi.dst v) w → Q (.panic c) a w)
    (hg : good ops n F oi = true) (v : Value) (hq : ∀ w, (execOp (evF F) oi).run P w = .ok (.value v) w) (h : wpD P w0 n ops Q ex (putF F oi.dst v) L fuel (listed.setIfInBounds i true)) : wpD P w0 n ops Q ex F L (fuel + 1) listed := fun a w ha hw =>
  wpAnyG_takeA i hi0 hc (fun c => hQ c v) (fun w' => .inl ⟨ha.wanted (good_spec hg).1, fun w1 _ => by rw [good_exec hg ha]; unfold Gives; rw [hq w1]; exact ⟨rfl, Gr.refl _⟩⟩) (h _ _ (ha.put (good_spec hg).2.2.1 v) hw)
theorem passD (i : Nat) {oi : Oper} (hi0 : ops.toList[i]? = some oi) (hc : canTake .any ops listed ex i = true) (hQ : ∀ c v a w, Q (.panic c) (a.put oi.dst v) w → Q (.panic c) a w)
    (hg : wantedF ops F oi = some false) (hd : fits n oi.dst = true) (h : wpD P w0 n ops Q ex (putF F oi.dst undef) L fuel (listed.setIfInBounds i true)) : wpD P w0 n ops Q ex F L (fuel + 1) listed := fun _ _ ha hw =>
  wpAnyG_take i hi0 hc (fun c => hQ c undef) (YieldsG.skip (ha.wanted hg)) (h _ _ (ha.put hd undef) hw)
theorem makeD (i : Nat) {oi : Oper} (hi0 : ops.toList[i]? = some oi) (hr : Region.ready .any ops listed = [i]) (hg : good ops n F oi = true) (t : TypeId) (cs : Array Value) (val : Nat → Value) (hm : Makes P F oi t cs val)
    (h : ∀ g, wpD P w0 n ops Q ex (putF F oi.dst (val g)) (L ++ [(g, t, cs)]) fuel (listed.setIfInBounds i true)) : wpD P w0 n ops Q ex F L (fuel + 1) listed := fun a w ha hw =>
  wpAnyG_sole i hi0 hr (ha.wanted (good_spec hg).1) fun w1 h1 K hK => by
    unfold Oper.wp
    rw [good_exec hg ha, hm w1]
    exact hK _ _ (fun _ => gr_alloc w1 _) (h w1.heap.size _ _ (ha.put (good_spec hg).2.2.1 _) ((hw.gr h1).add (gr_alloc w1 _) (Nat.le_refl _) (Blk.new w1 t cs)))
theorem writeD (k : Nat) {oi : Oper} (hi0 : ops.toList[k]? = some oi) (hr : Region.ready .any ops listed = [k]) (hex : ex k = true) (hg : good ops n F oi = true) (i g : Nat) (t : TypeId) (cs cs' : Array Value) (hL : L[i]? = some (g, t, cs)) (hm : Writes P F oi g t cs cs')
    (h : wpD P w0 n ops Q ex (putF F oi.dst undef) (L.set i (g, t, cs')) fuel (listed.setIfInBounds k true)) : wpD P w0 n ops Q ex F L (fuel + 1) listed := fun a w ha hw =>
  wpAnyG_sole k hi0 hr (ha.wanted (good_spec hg).1) fun w1 h1 K hK => by
    obtain ⟨w', e1, e2, e3, e4⟩ := hm w1 ((hw.gr h1).get hL)
    unfold Oper.wp
    rw [good_exec hg ha, e1]
    exact hK _ _ (fun e => by rw [hex] at e; cases e) (h _ _ (ha.put (good_spec hg).2.2.1 _) ((hw.gr h1).set hL e2 e3 e4))

/-! entering, leaving -/
/-- what a contract says that only grows the world -/
def Gets (w0 : World) (v : Value) (e : Ending) (w' : World) : Prop := e = .returned v ∧ Below w0.heap.size w0 w'
def slotsOf : Nat → List Value → Slots
  | _, [] => []
  | i, v :: r => (i, v) :: slotsOf (i + 1) r
theorem lookup_slotsOf : ∀ (l : List Value) (i j : Nat) (v : Value), (slotsOf i l).lookup j = some v → i ≤ j ∧ l[j - i]? = some v
  | [], _, _, _, h => by cases h
  | u :: r, i, j, v, h => by
    simp only [slotsOf, List.lookup_cons] at h
    by_cases e : j = i
    · subst e
      simp at h
      subst h
      exact ⟨Nat.le_refl _, by simp⟩
    · have e' : (j == i) = false := by simpa using e
      rw [e'] at h
      obtain ⟨h1, h2⟩ := lookup_slotsOf r (i + 1) j v h
      refine ⟨by omega, ?_⟩
      rw [show j - i = (j - (i + 1)) + 1 by omega]
      simpa using h2
theorem enter {f : FuncId} {fn : Func} {c : Code} {args : List Value} {w : World} {R : Ending → World → Prop} (hf : P.funcs[f]? = some fn) (hb : fn.body = some c) (hn : args.length ≤ fn.ntmps)
    (h : wpC P w fn.ntmps (bodyPost P fn R) (slotsOf 0 args) [] c) : Calls P f args.toArray w R :=
  calls_of_wp hf hb (h _ _ ⟨rfl, by simp; omega, fun i v hi => by
    have := (lookup_slotsOf args 0 i v hi).2
    rw [Nat.sub_zero] at this
    have hl := (List.getElem?_eq_some_iff.1 this).1
    rw [Array.getElem?_append_left (by simpa using hl)]
    simpa using this⟩ (St.start w))
/-- a result lies in a slot, or in a block -/
def Res (P : Program) (F : Slots) (L : Blocks) (r : ResultVar) (v : Value) : Prop :=
  match r with
  | .tmp t => F.lookup t = some v
  | .cell t ty => ∃ (g i : Nat) (ty' : TypeId) (cs : Array Value) (d : TypeDesc), F.lookup t = some (.pointer (some ⟨g, 0, none⟩)) ∧ L[i]? = some (g, ty', cs) ∧ P.underlying ty = some d ∧ d.isRow = true ∧ (P.info? ty).map (·.size) = some cs.size ∧ v = .agg cs
theorem Res.cell {t : Tmp} {ty ty' : TypeId} {v : Value} (g i : Nat) (cs : Array Value) (d : TypeDesc) (h1 : F.lookup t = some (.pointer (some ⟨g, 0, none⟩))) (h2 : L[i]? = some (g, ty', cs)) (h3 : P.underlying ty = some d) (h4 : d.isRow = true) (h5 : (P.info? ty).map (·.size) = some cs.size) (h6 : v = .agg cs) : Res P F L (.cell t ty) v :=
  ⟨g, i, ty', cs, d, h1, h2, h3, h4, h5, h6⟩
/-- .. a scalar in a block -/
def ResC (P : Program) (F : Slots) (L : Blocks) (t : Tmp) (ty : TypeId) (v : Value) : Prop :=
  ∃ (g i : Nat) (ty' : TypeId) (cs : Array Value) (d : TypeDesc), F.lookup t = some (.pointer (some ⟨g, 0, none⟩)) ∧ L[i]? = some (g, ty', cs) ∧ P.underlying ty = some d ∧ d.isRow = false ∧ cs[0]? = some v
/-- a result that is there -/
abbrev Has (P : Program) (F : Slots) (L : Blocks) (r : ResultVar) (v : Value) : Prop := Res P F L r v ∨ ∃ t ty, r = .cell t ty ∧ ResC P F L t ty v
theorem Res.run {a : Act} {w : World} {r : ResultVar} {v : Value} (h : Has P F L r v) (ha : Fr a n F) (hw : St w0 w L) :
    (∃ t, r = .tmp t ∧ a.tmps[t]?.getD undef = v) ∨ ∃ t ty ad, r = .cell t ty ∧ (asAddr (a.tmps[t]?.getD undef)).run P w = .ok ad w ∧ (loadVar ty ad).run P w = .ok v w := by
  rcases h with h | ⟨t, ty, rfl, g, i, ty', cs, d, h1, h2, h3, h4, h5⟩
  · cases r with
    | tmp t => exact .inl ⟨t, rfl, by simp [ha.2.2 t v h]⟩
    | cell t ty =>
      obtain ⟨g, i, ty', cs, d, h1, h2, h3, h4, h5, rfl⟩ := h
      have e2 := run_loadVar_row (P := P) w g ty' ty cs (0, 0) d (hw.get h2) h3 (by cases d <;> first | rfl | cases h4) h5
      exact .inr ⟨t, ty, ⟨g, 0, none⟩, rfl, by simp [ha.2.2 t _ h1, asAddr], e2⟩
  · have hb := hw.get h2
    have hc : w.cell? ⟨g, 0, none⟩ = some v := (hb.cell 0).trans h5
    have hag : (isAgg ty).run P w = .ok false w := by
      cases d <;> first | (cases h4; done) | simp [isAgg, underlying, h3]
    exact .inr ⟨t, ty, ⟨g, 0, none⟩, rfl, by simp [ha.2.2 t _ h1, asAddr], by simp [loadVar, hag, hc, Result.andThen]⟩
theorem ret1 {fn : Func} {r : ResultVar} {v : Value} (hr : fn.results = #[r]) (h : Has P F L r v) : X w0 n (bodyPost P fn (Gets w0 v)) F L .ret := fun a w ha hw => by
  refine bodyPost_ret (v := v) ?_ ha.1 ⟨rfl, hw.below⟩
  rcases Res.run h ha hw with ⟨t, rfl, e1⟩ | ⟨t, ty, ad, rfl, e1, e2⟩ <;> simp [results, Result.andThen, *]
theorem ret2 {fn : Func} {r s : ResultVar} {v u : Value} (hr : fn.results = #[r, s]) (h : Has P F L r v) (k : Has P F L s u) : X w0 n (bodyPost P fn (Gets w0 (.tuple #[v, u]))) F L .ret := fun a w ha hw => by
  refine bodyPost_ret (v := .tuple #[v, u]) ?_ ha.1 ⟨rfl, hw.below⟩
  rcases Res.run h ha hw with ⟨t, rfl, e1⟩ | ⟨t, ty, ad, rfl, e1, e2⟩ <;> rcases Res.run k ha hw with ⟨t', rfl, f1⟩ | ⟨t', ty', ad', rfl, f1, f2⟩ <;> simp [results, Result.andThen, *]
theorem ret3 {fn : Func} {r s q : ResultVar} {v u x : Value} (hr : fn.results = #[r, s, q]) (h : Has P F L r v) (k : Has P F L s u) (m : Has P F L q x) : X w0 n (bodyPost P fn (Gets w0 (.tuple #[v, u, x]))) F L .ret := fun a w ha hw => by
  refine bodyPost_ret (v := .tuple #[v, u, x]) ?_ ha.1 ⟨rfl, hw.below⟩
  rcases Res.run h ha hw with ⟨t, rfl, e1⟩ | ⟨t, ty, ad, rfl, e1, e2⟩ <;> rcases Res.run k ha hw with ⟨t', rfl, f1⟩ | ⟨t', ty', ad', rfl, f1, f2⟩ <;> rcases Res.run m ha hw with ⟨t'', rfl, g1⟩ | ⟨t'', ty'', ad'', rfl, g1, g2⟩ <;> simp [results, Result.andThen, *]
end
end Go.Proofs.Ytlojidnlkflpnaa.Sy
