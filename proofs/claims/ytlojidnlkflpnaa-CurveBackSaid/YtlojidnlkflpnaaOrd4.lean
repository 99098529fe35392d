/-
  A region that draws its order: an operation may be taken first where whatever would not let it by waits for it, if only through others. No function of the program stands here.
-/
import Derived.Test.YtlojidnlkflpnaaOrd
namespace Go.Proofs.Ytlojidnlkflpnaa
open Go.RowKit

section
variable {P : Program} {ops : Array Oper} {Q : Exit → Act → World → Prop} {md : Region.Mode} {ex : Nat → Bool}
theorem wpAnyG_firstB {i : Nat} {oi : Oper} {v : Value} (bs : Nat → Bool) (hi : ops[i]? = some oi) (hsel : ∀ (j : Nat) (o : Oper) cs b, ops[j]? = some o → o.op ≠ .select cs b)
    (hQ : ∀ c a w, Q (.panic c) (a.put oi.dst v) w → Q (.panic c) a w) (hex : ∀ k ok, ops[k]? = some ok → ex k = true → bs k = true)
    (hbs : ∀ k ok, ops[k]? = some ok → bs k = true → ∃ e ∈ ok.after, Region.binds md e = true ∧ (e.on = i ∨ bs e.on = true)) :
    ∀ (fuel : Nat) (listed : Array Bool) (a : Act) (w : World), (∀ k, bs k = true → listed.getD k true = false) →
      (∀ j oj, ops[j]? = some oj → j ≠ i → listed.getD j true = false → bs j = false → oi.apart ops oj = true) →
      i ∈ Region.ready md ops listed → YieldsG P ops oi v a w →
      wpAnyG P md ops Q ex fuel (listed.setIfInBounds i true) (a.put oi.dst v) w → wpAnyG P md ops Q ex (fuel + 1) listed a w := by
  intro fuel
  induction fuel with
  | zero =>
    intro listed a w _ _ hr hy H w1 hw1
    refine ⟨fun h => (by rw [h] at hr; cases hr), fun j hj => ?_⟩
    by_cases hji : j = i
    · subst hji; exact (hy.grow hw1).wpOp hi (fun w' h' => ⟨fun _ => h', wpAnyG_grow _ _ _ _ _ (hw1.trans h') H⟩)
    · have := ready_mono hj hji
      rw [H.1] at this
      cases this
  | succ fuel ih =>
    intro listed a w hl hfree hr hy H w1 hw1
    refine ⟨fun h => (by rw [h] at hr; cases hr), fun j hj => ?_⟩
    by_cases hji : j = i
    · subst hji; exact (hy.grow hw1).wpOp hi (fun w' h' => ⟨fun _ => h', wpAnyG_grow _ _ _ _ _ (hw1.trans h') H⟩)
    · have h1 := (H w1 hw1).2 j (ready_mono hj hji)
      obtain ⟨hjun, oj, hoj, hall⟩ := mem_ready.1 hj
      have hun : ∀ k, listed.getD k true = false → listed.getD k false = true → False := fun k h0 h1 => by
        rcases Nat.lt_or_ge k listed.size with h' | h'
        · simp [h'] at h0 h1; rw [h0] at h1; cases h1
        · simp [Array.getElem?_eq_none h'] at h1
      have hbj : bs j = false := by
        cases hb : bs j with
        | false => rfl
        | true =>
          obtain ⟨e, he, hbd, ho⟩ := hbs j oj hoj hb
          have h2 := hall e he hbd
          rcases ho with ho | ho
          · rw [ho] at h2; exact (hun i (mem_ready.1 hr).1 h2).elim
          · exact (hun e.on (hl e.on ho) h2).elim
      have hexj : ex j = false := by
        cases hxj : ex j with
        | false => rfl
        | true => rw [hex j oj hoj hxj] at hbj; cases hbj
      have h2 := wpOp_putG hoj (hfree j oj hoj hji hjun hbj) (fun cs b => hsel i oi cs b hi) (fun cs b => hsel j oj cs b hoj) hQ hy h1
      have hl' : ∀ k, bs k = true → (listed.setIfInBounds j true).getD k true = false := fun k hk => by
        have hjk : j ≠ k := fun e => by rw [← e, hbj] at hk; cases hk
        rw [getD_set_ne true hjk]; exact hl k hk
      have hfree' : ∀ k ok, ops[k]? = some ok → k ≠ i → (listed.setIfInBounds j true).getD k true = false → bs k = false → oi.apart ops ok = true := fun k ok hk hki hun hno => by
        refine hfree k ok hk hki ?_ hno
        by_cases hjk : j = k
        · subst hjk; exact hjun
        · rw [getD_set_ne true hjk] at hun; exact hun
      refine wpOp_mono (fun a' w' h3 => ⟨h3.2.1, ih (listed.setIfInBounds j true) a' w' hl' hfree' (ready_mono hr (Ne.symm hji)) (h3.1.grow (hw1.trans (h3.2.1 hexj))) ?_⟩) h2
      rw [Array.setIfInBounds_comm _ _ hji]
      exact h3.2.2
/-- all that is asked, as one Bool: bs: those that wait, if only through others -/
def canTakeB (md : Region.Mode) (ops : Array Oper) (listed : Array Bool) (ex : Nat → Bool) (i : Nat) (bs : List Nat) : Bool :=
  Region.noSelect ops && (Region.ready md ops listed).contains i && (bs.all fun k => !(listed.getD k true)) &&
  (match ops[i]? with
   | none => false
   | some oi => (List.range ops.size).all fun k => match ops[k]? with
     | none => true
     | some ok => (!(bs.contains k) || ok.after.any fun e => Region.binds md e && (e.on == i || bs.contains e.on)) && (!(ex k) || bs.contains k) && (k == i || listed.getD k true || bs.contains k || oi.apart ops ok))
theorem wpAnyG_takeB (i : Nat) (bs : List Nat) {oi : Oper} {v : Value} {fuel : Nat} {listed : Array Bool} {a : Act} {w : World} (hi0 : ops.toList[i]? = some oi) (hc : canTakeB md ops listed ex i bs = true)
    (hQ : ∀ c a w, Q (.panic c) (a.put oi.dst v) w → Q (.panic c) a w) (hy : YieldsG P ops oi v a w)
    (h : wpAnyG P md ops Q ex fuel (listed.setIfInBounds i true) (a.put oi.dst v) w) : wpAnyG P md ops Q ex (fuel + 1) listed a w := by
  have hi : ops[i]? = some oi := by simpa using hi0
  unfold canTakeB at hc
  simp only [hi, Bool.and_eq_true] at hc
  obtain ⟨⟨⟨h1, h2⟩, h3⟩, h4⟩ := hc
  rw [List.all_eq_true] at h3 h4
  have h5 : ∀ k ok, ops[k]? = some ok → _ := fun k ok hk => by
    have h := h4 k (List.mem_range.2 (Array.getElem?_eq_some_iff.1 hk).1)
    simp only [hk, Bool.and_eq_true] at h
    exact h
  refine wpAnyG_firstB (fun k => bs.contains k) hi (Region.noSelect_spec h1) hQ (fun k ok hk he => ?_) (fun k ok hk hb => ?_) fuel listed a w (fun k hk => ?_) (fun j oj hj hji hun hb => ?_) (by simpa using h2) hy h
  · have h := (h5 k ok hk).1.2
    simpa [he] using h
  · have h := (h5 k ok hk).1.1
    simp only [hb, Bool.not_true, Bool.false_or] at h
    rw [Array.any_eq_true'] at h
    obtain ⟨e, hm, hx⟩ := h
    simp only [Bool.and_eq_true, Bool.or_eq_true, beq_iff_eq] at hx
    exact ⟨e, hm, hx.1, hx.2⟩
  · have h := h3 k (by simpa using hk)
    simpa using h
  · have h := (h5 j oj hj).2
    simp only [hun, hb, Bool.or_false, Bool.or_eq_true, beq_iff_eq] at h
    exact h.resolve_left hji
end
end Go.Proofs.Ytlojidnlkflpnaa
