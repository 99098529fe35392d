/-
  A region that draws its order and stores known things into blocks of its own, at whatever time: an operation that yields one value in every later world may be taken first, also where a store may come before it. No function of the program stands here.
-/
import Derived.Test.YtlojidnlkflpnaaFeOrd
namespace Go.Proofs.Ytlojidnlkflpnaa
open Go.RowKit

section
variable {P : Program} {ops : Array Oper} {Q : Exit → Act → World → Prop} {md : Region.Mode} {V : List (Nat × Obj)}

/-- what grew, but for the blocks of V, which may have come to be what V says -/
structure GrV (V : List (Nat × Obj)) (w w' : World) : Prop where
  os : w'.os = w.os
  tape : w'.tape = w.tape
  output : w'.output = w.output
  size : w.heap.size ≤ w'.heap.size
  block : ∀ k, k < w.heap.size → w'.heap[k]? = w.heap[k]? ∨ ∃ o, (k, o) ∈ V ∧ w'.heap[k]? = some o
theorem GrV.refl (w : World) : GrV V w w := ⟨rfl, rfl, rfl, Nat.le_refl _, fun _ _ => .inl rfl⟩
theorem GrV.trans {a b c : World} (h : GrV V a b) (k : GrV V b c) : GrV V a c :=
  ⟨k.os.trans h.os, k.tape.trans h.tape, k.output.trans h.output, Nat.le_trans h.size k.size, fun i hi => by
    rcases k.block i (Nat.lt_of_lt_of_le hi h.size) with e | e
    · rw [e]; exact h.block i hi
    · exact .inr e⟩
theorem GrV.of_gr {w w' : World} (h : Gr w w') : GrV V w w' := ⟨h.os, h.tape, h.output, h.size, fun k hk => .inl (h.block k hk)⟩
theorem GrV.lt {w w' : World} (h : GrV V w w') {g : Nat} (hg : g < w.heap.size) : g < w'.heap.size := Nat.lt_of_lt_of_le hg h.size
theorem GrV.far {w w' : World} (h : GrV V w w') {g : Nat} (hl : g < w.heap.size) (hg : V.all (fun x => x.1 != g) = true) : w'.heap[g]? = w.heap[g]? := by
  rcases h.block g hl with e | ⟨o, hm, _⟩
  · exact e
  · have := List.all_eq_true.1 hg _ hm
    simp at this
theorem GrV.blk {w w' : World} (h : GrV V w w') {g : Nat} {t : TypeId} {cs : Array Value} (hg : Blk w g t cs) (hf : V.all (fun x => x.1 != g) = true) : Blk w' g t cs := (h.far hg.lt hf).trans hg
theorem GrV.cell {w w' : World} (h : GrV V w w') {p : Addr} (hl : p.block < w.heap.size) (hf : V.all (fun x => x.1 != p.block) = true) : w'.cell? p = w.cell? p := World.cell?_of_block (w := w) (h.far hl hf)
/-- one that has come to be so -/
theorem GrV.done {w w' : World} (h : GrV V w w') {g : Nat} {t : TypeId} {cs : Array Value} (hg : Blk w g t cs) (hv : ∀ o, (g, o) ∈ V → o = .cells cs t) : Blk w' g t cs := by
  rcases h.block g hg.lt with e | ⟨o, hm, e⟩
  · exact e.trans hg
  · rw [hv o hm] at e; exact e
/-- one that may have come to be so: of the same size in any case -/
theorem GrV.some {w w' : World} (h : GrV V w w') {g n : Nat} {t : TypeId} {cs : Array Value} (hg : Blk w g t cs) (hn : cs.size = n) (hv : ∀ o, (g, o) ∈ V → ∃ c : Array Value, o = .cells c t ∧ c.size = n) : ∃ c : Array Value, Blk w' g t c ∧ c.size = n := by
  rcases h.block g hg.lt with e | ⟨o, hm, e⟩
  · exact ⟨cs, e.trans hg, hn⟩
  · obtain ⟨c, rfl, hc⟩ := hv o hm
    exact ⟨c, e, hc⟩
theorem GrV.below {w w' : World} (h : GrV V w w') {B : Nat} (hB : B ≤ w.heap.size) (hV : ∀ x ∈ V, B ≤ x.1) : Below B w w' :=
  ⟨h.os, h.tape, h.output, h.size, fun k hk => by
    rcases h.block k (by omega) with e | ⟨o, hm, _⟩
    · exact e
    · have := hV _ hm
      simp at this
      omega⟩
theorem GrV.setRow {w : World} {g : Nat} {t : TypeId} {c cs : Array Value} (hg : Blk w g t c) (hm : (g, .cells cs t) ∈ V) : GrV V w (w.setRow g cs) :=
  ⟨rfl, rfl, rfl, by simp, fun k _ => by
    by_cases hk : k = g
    · subst hk; exact .inr ⟨_, hm, hg.setRow cs⟩
    · exact .inl (heap_setRow_far w g k cs hk)⟩

def GivesV (P : Program) (V : List (Nat × Obj)) (s : Sem Next) (v : Value) (w : World) : Prop :=
  match s.run P w with
  | .ok (.value u) w' => u = v ∧ GrV V w w'
  | .ok .skip w' => v = undef ∧ GrV V w w'
  | .ok (.enter f args) w' => Calls P f args w' fun e w'' => e = .returned v ∧ GrV V w w''
  | _ => False
def YieldsV (P : Program) (V : List (Nat × Obj)) (ops : Array Oper) (o : Oper) (v : Value) (a : Act) (w : World) : Prop :=
  (Region.wanted o (yielded ops a.tmps) = true ∧ ∀ w1, GrV V w w1 → GivesV P V (execOp a.eval o) v w1) ∨ (Region.wanted o (yielded ops a.tmps) = false ∧ v = undef)
theorem YieldsV.of_same {o : Oper} {v : Value} {a a' : Act} {w : World} (hy : YieldsV P V ops o v a w) (he : execOp a'.eval o = execOp a.eval o)
    (hw : Region.wanted o (yielded ops a'.tmps) = Region.wanted o (yielded ops a.tmps)) : YieldsV P V ops o v a' w := by
  unfold YieldsV at *
  rw [he, hw]
  exact hy
theorem YieldsV.grow {o : Oper} {v : Value} {a : Act} {w w1 : World} (hy : YieldsV P V ops o v a w) (hg : GrV V w w1) : YieldsV P V ops o v a w1 :=
  hy.imp (fun ⟨h, k⟩ => ⟨h, fun w2 h2 => k w2 (hg.trans h2)⟩) id
theorem YieldsV.wpOp {i : Nat} {o : Oper} {v : Value} {a : Act} (hi : ops[i]? = some o) {K : Act → World → Prop} {w : World} (hy : YieldsV P V ops o v a w)
    (h : ∀ w', GrV V w w' → K (a.put o.dst v) w') : wpOp P ops Q i K a w := by
  unfold Go.wpOp
  simp only [hi]
  rcases hy with ⟨hw, hv⟩ | ⟨hw, rfl⟩
  · simp only [hw, if_true]
    refine .inl ?_
    have h0 := hv w (GrV.refl w)
    unfold GivesV at h0
    unfold Oper.wp
    generalize (execOp a.eval o).run P w = r at *
    cases r with
    | ok n w' =>
      cases n <;> simp only [Oper.upon] at h0 ⊢
      case value u => rw [h0.1]; exact h _ h0.2
      case skip => rw [← h0.1]; exact h _ h0.2
      case enter f args =>
        refine Calls.mono h0 fun e w'' he => ?_
        rw [he.1]
        exact h _ he.2
    | halt x w' => cases x <;> exact h0.elim
  · simp only [hw, Bool.false_eq_true, if_false]
    exact h _ (GrV.refl w)
theorem wpOp_putV {j : Nat} {oi oj : Oper} {v : Value} {w0 : World} (hj : ops[j]? = some oj) (hap : oi.apart ops oj = true)
    (hsi : ∀ cs b, oi.op ≠ .select cs b) (hsj : ∀ cs b, oj.op ≠ .select cs b)
    (hQ : ∀ c a w, Q (.panic c) (a.put oi.dst v) w → Q (.panic c) a w) {K : Act → World → Prop} {a : Act} {w : World}
    (hy : YieldsV P V ops oi v a w0) (h : wpOp P ops Q j K (a.put oi.dst v) w) :
    wpOp P ops Q j (fun a' w' => YieldsV P V ops oi v a' w0 ∧ K (a'.put oi.dst v) w') a w := by
  obtain ⟨h1, h2, h3⟩ := Oper.apart_spec hap
  have keep : ∀ (a : Act), YieldsV P V ops oi v a w0 → ∀ u, YieldsV P V ops oi v (a.put oj.dst u) w0 := fun a hy u =>
    hy.of_same (execOp_put oi hsi a oj.dst u h3) (wanted_put oi a oj.dst u h3)
  have keepD : ∀ d, YieldsV P V ops oi v { a with defers := d :: a.defers } w0 := fun d => hy.of_same rfl rfl
  unfold wpOp at *
  simp only [hj] at *
  rw [wanted_put oj a oi.dst v h1] at h
  split
  · rename_i hw
    simp only [hw, if_true] at h
    rcases h with h | ⟨hasks, hlets⟩
    case inr => exact .inr ⟨by unfold Oper.asks at *; rw [execOp_put oj hsj a oi.dst v h1] at hasks; exact hasks, hlets⟩
    refine .inl ?_
    unfold Oper.wp at *
    rw [execOp_put oj hsj a oi.dst v h1] at h
    generalize (execOp a.eval oj).run P w = r at *
    cases r with
    | ok n w' =>
      cases n <;> simp only [Oper.upon] at h ⊢
      case value u => exact ⟨keep a hy u, by rw [← Act.put_comm a v u h2]; exact h⟩
      case skip => exact ⟨keep a hy _, by rw [← Act.put_comm a v undef h2]; exact h⟩
      case defer d =>
        refine ⟨keep _ (keepD d) _, ?_⟩
        rw [← Act.put_comm _ v undef h2, ← Act.put_defers]
        exact h
      case enter f args =>
        refine Calls.mono h fun e w'' he => ?_
        cases e with
        | returned u => exact ⟨keep a hy u, by rw [← Act.put_comm a v u h2]; exact he⟩
        | panicked c => exact hQ _ _ _ he
        | outgrown => exact he
      case row row args => exact Rows.mono h fun u w'' he => ⟨keep a hy u, by rw [← Act.put_comm a v u h2]; exact he⟩
    | halt x w' =>
      cases x <;> simp only [Oper.upon] at h ⊢
      case panic u => exact hQ _ _ _ h
  · rename_i hw
    simp only [hw] at h
    exact ⟨keep a hy _, by rw [← Act.put_comm a v undef h2]; exact h⟩

/-- whatever order is picked, and however the world has gone on between -/
def wpAnyV (P : Program) (V : List (Nat × Obj)) (md : Region.Mode) (ops : Array Oper) (Q : Exit → Act → World → Prop) : Nat → Array Bool → Act → World → Prop
  | 0, listed, a, w => Region.ready md ops listed = [] ∧ ∀ w1, GrV V w w1 → Q .normal a w1
  | fuel + 1, listed, a, w => ∀ w1, GrV V w w1 →
    (Region.ready md ops listed = [] → Q .normal a w1) ∧
    ∀ i ∈ Region.ready md ops listed, wpOp P ops Q i (fun a' w' => GrV V w1 w' ∧ wpAnyV P V md ops Q fuel (listed.setIfInBounds i true) a' w') a w1
theorem wpAny_of_V : ∀ (fuel : Nat) (listed : Array Bool) (a : Act) (w : World), wpAnyV P V md ops Q fuel listed a w → wpAny P md ops Q fuel listed a w
  | 0, _, _, w, h => ⟨h.1, h.2 w (GrV.refl w)⟩
  | fuel + 1, _, _, w, h => ⟨(h w (GrV.refl w)).1, fun i hi => wpOp_mono (fun a' w' h' => wpAny_of_V fuel _ a' w' h'.2) ((h w (GrV.refl w)).2 i hi)⟩
theorem wpAnyV_grow : ∀ (fuel : Nat) (listed : Array Bool) (a : Act) (w w1 : World), GrV V w w1 → wpAnyV P V md ops Q fuel listed a w → wpAnyV P V md ops Q fuel listed a w1
  | 0, _, _, _, _, hg, h => ⟨h.1, fun w2 h2 => h.2 w2 (hg.trans h2)⟩
  | _ + 1, _, _, _, _, hg, h => fun w2 h2 => h w2 (hg.trans h2)
theorem wpAnyV_first {i : Nat} {oi : Oper} {v : Value} (hi : ops[i]? = some oi) (hsel : ∀ (j : Nat) (o : Oper) cs b, ops[j]? = some o → o.op ≠ .select cs b)
    (hQ : ∀ c a w, Q (.panic c) (a.put oi.dst v) w → Q (.panic c) a w) :
    ∀ (fuel : Nat) (listed : Array Bool) (a : Act) (w : World),
      (∀ j oj, ops[j]? = some oj → j ≠ i → listed.getD j true = false → (∀ e ∈ oj.after, Region.binds md e = true → e.on ≠ i) → oi.apart ops oj = true) →
      i ∈ Region.ready md ops listed → YieldsV P V ops oi v a w →
      wpAnyV P V md ops Q fuel (listed.setIfInBounds i true) (a.put oi.dst v) w → wpAnyV P V md ops Q (fuel + 1) listed a w := by
  intro fuel
  induction fuel with
  | zero =>
    intro listed a w _ hr hy H w1 hw1
    refine ⟨fun h => (by rw [h] at hr; cases hr), fun j hj => ?_⟩
    by_cases hji : j = i
    · subst hji; exact (hy.grow hw1).wpOp hi (fun w' h' => ⟨h', wpAnyV_grow _ _ _ _ _ (hw1.trans h') H⟩)
    · have := ready_mono hj hji
      rw [H.1] at this
      cases this
  | succ fuel ih =>
    intro listed a w hfree hr hy H w1 hw1
    refine ⟨fun h => (by rw [h] at hr; cases hr), fun j hj => ?_⟩
    by_cases hji : j = i
    · subst hji; exact (hy.grow hw1).wpOp hi (fun w' h' => ⟨h', wpAnyV_grow _ _ _ _ _ (hw1.trans h') H⟩)
    · have h1 := (H w1 hw1).2 j (ready_mono hj hji)
      obtain ⟨hjun, oj, hoj, hall⟩ := mem_ready.1 hj
      have hnot : ∀ e ∈ oj.after, Region.binds md e = true → e.on ≠ i := fun e he hb heq => by
        have h1 := hall e he hb
        have h0 := (mem_ready.1 hr).1
        rw [heq] at h1
        rcases Nat.lt_or_ge i listed.size with h' | h'
        · simp [h'] at h0 h1; rw [h0] at h1; cases h1
        · simp [Array.getElem?_eq_none h'] at h1
      have h2 := wpOp_putV hoj (hfree j oj hoj hji hjun hnot) (fun cs b => hsel i oi cs b hi) (fun cs b => hsel j oj cs b hoj) hQ hy h1
      have hfree' : ∀ k ok, ops[k]? = some ok → k ≠ i → (listed.setIfInBounds j true).getD k true = false →
          (∀ e ∈ ok.after, Region.binds md e = true → e.on ≠ i) → oi.apart ops ok = true := fun k ok hk hki hun hno => by
        refine hfree k ok hk hki ?_ hno
        by_cases hjk : j = k
        · subst hjk; exact hjun
        · rw [getD_set_ne true hjk] at hun; exact hun
      refine wpOp_mono (fun a' w' h3 => ⟨h3.2.1, ih (listed.setIfInBounds j true) a' w' hfree' (ready_mono hr (Ne.symm hji)) (h3.1.grow (hw1.trans h3.2.1)) ?_⟩) h2
      rw [Array.setIfInBounds_comm _ _ hji]
      exact h3.2.2
theorem wpAnyV_take (i : Nat) {oi : Oper} {v : Value} {fuel : Nat} {listed : Array Bool} {a : Act} {w : World} (hi0 : ops.toList[i]? = some oi) (hc : canTakeA md ops listed i = true)
    (hQ : ∀ c a w, Q (.panic c) (a.put oi.dst v) w → Q (.panic c) a w) (hy : YieldsV P V ops oi v a w)
    (h : wpAnyV P V md ops Q fuel (listed.setIfInBounds i true) (a.put oi.dst v) w) : wpAnyV P V md ops Q (fuel + 1) listed a w := by
  have hi : ops[i]? = some oi := by simpa using hi0
  unfold canTakeA at hc
  simp only [Bool.and_eq_true] at hc
  exact wpAnyV_first hi (Region.noSelect_spec hc.1.1) hQ fuel listed a w (Region.free_spec hi hc.1.2) (by simpa using hc.2) hy h
theorem wpAnyV_sole (i : Nat) {oi : Oper} {fuel : Nat} {listed : Array Bool} {a : Act} {w : World} (hi0 : ops.toList[i]? = some oi) (hr : Region.ready md ops listed = [i])
    (hw : Region.wanted oi (yielded ops a.tmps) = true)
    (h : ∀ w1, GrV V w w1 → ∀ K : Act → World → Prop, (∀ a' w', GrV V w1 w' → wpAnyV P V md ops Q fuel (listed.setIfInBounds i true) a' w' → K a' w') → Oper.wp P oi a w1 K Q) :
    wpAnyV P V md ops Q (fuel + 1) listed a w := fun w1 hw1 =>
  ⟨fun h0 => (by rw [hr] at h0; cases h0), fun j hj => by
    rw [hr] at hj
    obtain rfl : j = i := by simpa using hj
    have hi : ops[j]? = some oi := by simpa using hi0
    refine wpOp_step hi (fun K' hK => ?_)
    rw [if_pos hw]
    exact h w1 hw1 K' (fun a' w' h1 h2 => hK a' w' ⟨h1, h2⟩)⟩
theorem wpAnyV_done {fuel : Nat} {listed : Array Bool} {a : Act} {w : World} (hr : Region.ready md ops listed = []) (h : ∀ w1, GrV V w w1 → Q .normal a w1) : wpAnyV P V md ops Q fuel listed a w := by
  cases fuel with
  | zero => exact ⟨hr, h⟩
  | succ n => exact fun w1 hw1 => ⟨fun _ => h w1 hw1, fun i hi => by rw [hr] at hi; cases hi⟩
/-- THE BEGINNING -/
theorem wp_region_V (V : List (Nat × Obj)) {id : Nat} {a : Act} {w : World} (hm : P.follows .mixedOrders = true) (h : wpAnyV P V .any ops Q ops.size (Array.replicate ops.size false) a w) : (Code.region id ops true).wp P Q a w :=
  wp_region_any hm (wpAny_of_V _ _ _ _ (wpAnyV_grow _ _ _ w _ (GrV.of_gr ((Below.refl _ _).drew)) h))

theorem YieldsV.pure {o : Oper} {v : Value} {a : Act} {w : World} (hw : Region.wanted o (yielded ops a.tmps) = true) (h : ∀ w1, GrV V w w1 → (execOp a.eval o).run P w1 = .ok (.value v) w1) : YieldsV P V ops o v a w :=
  .inl ⟨hw, fun w1 h1 => by unfold GivesV; rw [h w1 h1]; exact ⟨rfl, GrV.refl _⟩⟩
theorem YieldsV.call {o : Oper} {v : Value} {a : Act} {w : World} (hw : Region.wanted o (yielded ops a.tmps) = true) (f : FuncId) (args : Array Value)
    (he : ∀ w1, (execOp a.eval o).run P w1 = .ok (.enter f args) w1) (h : ∀ w1, GrV V w w1 → Calls P f args w1 fun e w2 => e = .returned v ∧ Gr w1 w2) : YieldsV P V ops o v a w :=
  .inl ⟨hw, fun w1 h1 => by unfold GivesV; rw [he w1]; exact Calls.mono (h w1 h1) fun e w2 ⟨h2, h3⟩ => ⟨h2, GrV.of_gr h3⟩⟩
/-- a whole array or struct into a block that V speaks of -/
theorem wpAnyV_store (i : Nat) {oi : Oper} {fuel : Nat} {listed : Array Bool} {a : Act} {w : World} (hi0 : ops.toList[i]? = some oi) (hr : Region.ready md ops listed = [i])
    (hw : Region.wanted oi (yielded ops a.tmps) = true) (ty : TypeId) (x y : Operand) (ho : oi.op = .store ty x y) (g : Nat) (cells : Array Value) (hx : a.eval x = .pointer (some ⟨g, 0, none⟩)) (hy : a.eval y = .agg cells)
    (t : TypeId) (hm : (g, .cells cells t) ∈ V) (hg : ∀ w1, GrV V w w1 → ∃ c : Array Value, Blk w1 g t c ∧ c.size = cells.size) (hi : (P.info? ty).map (·.size) = some cells.size) (h1 : cells.all (·.oneCell') = true)
    (h : ∀ w1, GrV V w w1 → ∀ w2, GrV V w1 w2 → Blk w2 g t cells → wpAnyV P V md ops Q fuel (listed.setIfInBounds i true) (a.put oi.dst undef) w2) :
    wpAnyV P V md ops Q (fuel + 1) listed a w :=
  wpAnyV_sole i hi0 hr hw (fun w1 hw1 K hK => by
    obtain ⟨c, hb, hc⟩ := hg w1 hw1
    exact wp_store_row ty x y ho g cells hx hy t c hb hi hc h1 (hK _ _ (GrV.setRow hb hm) (h w1 hw1 _ (GrV.setRow hb hm) (hb.setRow cells))))
end
end Go.Proofs.Ytlojidnlkflpnaa
