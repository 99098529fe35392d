/-
  Texts of ours, put together: SymF, SymG, CrvS, CrvT, CrvU, CrvF, CrvG, CrvH, ScBase, ScOps, CurveAlive, CurveBackL, SigA, ScEq, ScB32, SigB, SymX, SigC.
-/
import Derived.Test.YtbofhoonlmikcaaGreatDoorBV4
set_option linter.unusedVariables false
set_option linter.unusedSimpArgs false
section
namespace Go.Proofs.YtbofhoonlmikcaaGreatDoor.Sy
open Go.RowKit Go.Proofs.YtbofhoonlmikcaaGreatDoor

abbrev mark (D : Nat) : Deferred := { target := .collected D, args := #[] }
theorem St.refix {w0 : Base} {w : World} {L : Blocks} (h : St w0 w L) (ds : List Deferred) (fe : Fence) (ro : Nat) : St ⟨w0.world, w, ds, fe, ro⟩ w L := ⟨h.below, h.blk, h.apart, Nat.le_refl _, fun _ _ _ h _ => h⟩
theorem St.back {w0 : Base} {W w : World} {L L' : Blocks} (h0 : St w0 W L) {ds : List Deferred} {fe : Fence} {ro : Nat} (h : St ⟨w0.world, W, ds, fe, ro⟩ w L') (ds' : List Deferred) (fe' : Fence) (ro' : Nat) : St ⟨w0.world, w0.fz, ds', fe', ro'⟩ w L' :=
 ⟨h.below, h.blk, h.apart, Nat.le_trans h0.size h.size, fun k o hk ho hc => h.non k o hk (h0.non k o hk ho hc) hc⟩
theorem St.keeps {w0 : Base} {W w : World} {L L' : Blocks} (h0 : St w0 W L) {ds : List Deferred} {fe : Fence} {ro : Nat} (h : St ⟨w0.world, W, ds, fe, ro⟩ w L') {B : Nat} (hB : w0.world.heap.size ≤ B) : KeepsFrom B W w := ⟨h.size, fun k o hk ho hc => h.non k o (Nat.le_trans hB hk) ho hc⟩
theorem St.between {w0 : Base} {W w : World} {L L' : Blocks} (h0 : St w0 W L) {ds : List Deferred} {fe : Fence} {ro : Nat} (h : St ⟨w0.world, W, ds, fe, ro⟩ w L') : Below w0.world.heap.size W w :=
 ⟨h.below.os.trans h0.below.os.symm, h.below.tape.trans h0.below.tape.symm, h.below.output.trans h0.below.output.symm, h.size, fun k hk => (h.below.block k hk).trans (h0.below.block k hk).symm⟩
theorem St.own {w0 : Base} {X Y : World} {L : Blocks} {B : Nat} {row : Option Nat} (h : St w0 X L) (hB : w0.fz.heap.size ≤ B) (hB2 : w0.world.heap.size ≤ B) (hg : X.grownBy Y row) (hr : ∀ r, row = some r → B ≤ r ∧ ∃ o : Obj, X.heap[r]? = some o ∧ o.isCells = false) : St w0 Y L := by
 refine ⟨?_, fun g t cs hm => ⟨(h.blk g t cs hm).1, (h.blk g t cs hm).2.grown hg (fun e => ?_)⟩, h.apart, Nat.le_trans h.size hg.size, fun k o hk ho hc => ?_⟩
 ·refine h.below.trans ⟨hg.os, hg.tape, hg.output, hg.size, fun k hk => hg.block k (Nat.lt_of_lt_of_le hk h.below.size) (fun e => ?_)⟩
  have := (hr k e.symm).1
  omega
 ·obtain ⟨o, ho, hc⟩ := (hr g e.symm).2
  have hb := (h.blk g t cs hm).2
  unfold Blk at hb
  rw [hb] at ho
  cases ho
  cases hc
 ·have h1 := h.non k o hk ho hc
  have hlt := (Array.getElem?_eq_some_iff.1 ho).1
  exact (hg.block k (Array.getElem?_eq_some_iff.1 h1).1 (fun e => by have := (hr k e.symm).1; omega)).trans h1

def KpL (n₀ : Nat) (l : Blocks) (W W' : World) : Prop := Below n₀ W W' ∧ ∀ p ∈ l, Blk W p.1 p.2.1 p.2.2 → Blk W' p.1 p.2.1 p.2.2
theorem KpL.trans {n₀ : Nat} {l : Blocks} {A B C : World} (h : KpL n₀ l A B) (k : KpL n₀ l B C) : KpL n₀ l A C := ⟨h.1.trans k.1, fun p hp hc => k.2 p hp (h.2 p hp hc)⟩
theorem KpL.put {n₀ : Nat} {l : Blocks} {W : World} {k : Nat} {o o' : Obj} (hk : n₀ ≤ k) (ho : W.heap[k]? = some o) (hc : o.isCells = false) : KpL n₀ l W (W.putObj k o') := by
 have hg := grownBy_putObj' W k o'
 refine ⟨⟨hg.os, hg.tape, hg.output, hg.size, fun j hj => World.putObj_heap_other (by omega)⟩, fun p _ hp => ?_⟩
 have hne : p.1 ≠ k := by
  rintro rfl
  unfold Blk at hp
  rw [hp] at ho
  cases ho
  cases hc
 exact (World.putObj_heap_other hne).trans hp
def roundF (F : Slots) (ps : Array Tmp) (vs : Array Value) : Slots := (ps.toList.zip vs.toList).foldl (fun F x => (x.1, x.2) :: F) F
theorem Fr.round {ds : List Deferred} {n : Nat} : ∀ (l : List (Tmp × Value)) {T : Array Value} {F : Slots}, (∀ x ∈ l, x.1 < n) → Fr ds { tmps := T, defers := ds } n F → Fr ds { tmps := l.foldl (fun t x => t.setIfInBounds x.1 x.2) T, defers := ds } n (l.foldl (fun F x => (x.1, x.2) :: F) F)
 | [], _, _, _, h => h
 | x :: l, T, F, hl, h => by
  have h2 := h.put (d := some x.1) (decide_eq_true (hl x (List.mem_cons_self ..))) x.2
  exact Fr.round l (fun y hy => hl y (List.mem_cons_of_mem _ hy)) h2

section
variable {P : Program} {w0 fz0 : World} {n : Nat} {Q : Exit → Act → World → Prop} {F : Slots} {L : Blocks}
abbrev rb (w0 fz : World) (l : Nat) : Base := ⟨w0, fz, [], Fence.wide.inRound l, 7⟩
abbrev ab (w0 fz : World) (D : Nat) : Base := ⟨w0, fz, [mark D], Fence.wide, 9⟩
def BP {α : Type} (w0 fz : World) (l : Nat) (HI : List α → Prop) (LL XR : List α → Blocks) (HX : List α → Prop) (pre : List α) : Exit → Act → World → Prop
 | .normal, _, w => HI pre ∧ St (rb w0 fz l) w (LL pre)
 | .ret, _, w => HX pre ∧ St (rb w0 fz l) w (XR pre)
 | _, _, _ => False
def AP (w0 fz : World) (l n na : Nat) (FA : List Nat → Slots) (LP : Blocks) (LA : List Nat → Blocks) : Exit → Act → World → Prop
 | .normal, a, w => ∃ gs, gs.length = na ∧ Fr [] a n (FA gs) ∧ St (rb w0 fz l) w (LP ++ LA gs)
 | _, _, _ => False
theorem rangeF {α : Type} {g : Operand} {ps : Array Tmp} {assign body : Code} (gf : Nat) (lb : Array Value) (hgi : inF F g = true) (hg : evF F g = .func (.func gf) #[] lb) (eg : ∀ args w, (callFunc gf args).run P w = .ok (.enter gf args) w)
  (encs : α → Array Value) (kl : Blocks) (S Sp : List α → Prop) (N : Nat) (hps : ∀ x, (encs x).size = ps.size) (hpn : ∀ p ∈ ps.toList, p < n)
  (G : List Nat) (HI : List α → Prop) (hI0 : HI []) (LL XR : List α → Blocks) (HX : List α → Prop) (m : List Bool) (h0 : sel L m = LL []) (hG : ∀ pre, (LL pre).map (·.1) = G)
  (hseq : ∀ w, St ⟨w0, fz0, [], Fence.wide, 9⟩ w L → ∃ wk, Below wk.heap.size wk w ∧ SeqStopsK Fence.wide 8 P gf lb encs (KpL w0.heap.size kl) S Sp N wk)
  (hkl : ∀ p ∈ kl, ∀ pre, p ∈ LL pre)
  (na : Nat) (FA : α → List Nat → Slots) (LA : α → List Nat → Blocks) (hLA : ∀ x gs, gs.length = na → (LA x gs).map (·.1) = gs)
  (hassign : ∀ l fz pre x, wpC P (rb w0 fz l) n (AP w0 fz l n na (FA x) (LL pre) (LA x)) (roundF F ps (encs x)) (LL pre) assign)
  (hbody : ∀ l fz pre x gs, gs.length = na → pre.length < N → HI pre → wpC P (rb w0 fz l) n (BP w0 fz l HI LL XR HX (pre ++ [x])) (FA x gs) (LL pre ++ LA x gs) body)
  (hdone : ∀ D fz xs, S xs → HI xs → w0.heap.size ≤ D → fz.heap[D]? = some (.deferred (some [])) → X (ab w0 fz D) n Q F (LL xs) .normal)
  (hstop : ∀ D fz pre, Sp pre → HX pre → w0.heap.size ≤ D → fz.heap[D]? = some (.deferred (some [])) → X (ab w0 fz D) n Q F (XR pre) .ret) :
  wpC P ⟨w0, fz0, [], Fence.wide, 9⟩ n Q F L (.rangeFunc g ps assign body) := by
 intro a w ha hw
 obtain ⟨wk, hbk, hsq⟩ := hseq w hw
 have hsz : fz0.heap.size ≤ w.heap.size := hw.size
 have hsz0 : w0.heap.size ≤ w.heap.size := hw.below.size
 have hz : St ⟨w0, fz0, [], Fence.wide, 9⟩ w (LL []) := h0 ▸ hw.less (sel_sub L m)
 have had : a.defers = [] := ha.1
 -- what a round hands on pays the iterator
 have hK : ∀ {W W' : World} {L1 : Blocks} {pre pre' : List α} {l : Nat}, St ⟨w0, fz0, [], Fence.wide, 9⟩ W (LL pre) → St (rb w0 W l) W' L1 → (LL pre').Sublist L1 → KpL w0.heap.size kl W W' := fun {W W' L1 pre pre' l} h1 h2 hs =>
  ⟨h1.between h2, fun p hp _ => by
   exact (h2.blk _ _ _ (hs.subset (hkl p hp pre'))).2⟩
 refine wpIn_rangeFunc_ownH (F := Fence.wide) (n := 9) rfl (by omega) (gf := gf) (lb := lb) ((ha.eval hgi).trans hg) trivial eg (encs := encs) (Kp := KpL w0.heap.size kl) (S := S) (Sp := Sp) (N := N) (w0 := wk) hsq KpL.trans
  (fun W l o o' hl ho hc _ => KpL.put (by omega) ho hc) hbk hps
  (fun pre W => HI pre ∧ St ⟨w0, fz0, [], Fence.wide, 9⟩ W (LL pre)) (fun c pre W => c = .ret ∧ HX pre ∧ St ⟨w0, fz0, [], Fence.wide, 9⟩ W (XR pre))
  (fun pre X Y row hs hg hr => ⟨hs.1, St.own hs.2 hsz hsz0 hg hr⟩) (fun c pre X Y row hs hg hr => ⟨hs.1, hs.2.1, St.own hs.2.2 hsz hsz0 hg hr⟩) ⟨hI0, hz⟩
  (fun x a' W => ∃ gs, gs.length = na ∧ Fr [] a' n (FA x gs) ∧ (∀ e ∈ LA x gs, w0.heap.size ≤ e.1 ∧ Blk W e.1 e.2.1 e.2.2) ∧ (G ++ gs).Nodup)
  (fun x a' _ X Y row hs hg hr => ?_) ?_ ?_ ?_ ?_
 ·obtain ⟨gs, hl0, h1, h2, h3⟩ := hs
  refine ⟨gs, hl0, h1, fun e he => ⟨(h2 e he).1, (h2 e he).2.grown hg (fun q => ?_)⟩, h3⟩
  obtain ⟨o, ho, hc⟩ := (hr e.1 q.symm).2
  have hb := (h2 e he).2
  unfold Blk at hb
  rw [hb] at ho
  cases ho
  cases hc
 ·-- the loop variables
  intro l pre x W K hI0' hk
  obtain ⟨hH, hI⟩ := hI0'
  have hfr : Fr [] { tmps := (ps.zip (encs x)).foldl (fun t (p, v) => t.setIfInBounds p v) a.tmps, defers := [] } n (roundF F ps (encs x)) := by
   have h1 : Fr [] { tmps := a.tmps, defers := [] } n F := ⟨rfl, ha.2.1, ha.2.2⟩
   have h2 := Fr.round (ps.toList.zip (encs x).toList) (fun y hy => hpn y.1 (List.of_mem_zip hy).1) h1
   have e : (ps.zip (encs x)).foldl (fun t (p, v) => t.setIfInBounds p v) a.tmps = (ps.toList.zip (encs x).toList).foldl (fun t x => t.setIfInBounds x.1 x.2) a.tmps := by
    rw [← Array.foldl_toList, Array.toList_zip]
   rw [e]
   exact h2
  refine wpIn_mono (hassign l W pre x _ W hfr (hI.refix _ _ _)) fun e a' W' hq => ?_
  cases e with
  | normal =>
   obtain ⟨gs, hl0, h1, h2⟩ := hq
   have hsub : (LL pre).Sublist (LL pre ++ LA x gs) := List.sublist_append_left _ _
   refine hk a' W' (hI.keeps h2 hsz0) (hK hI h2 hsub) ⟨hH, (hI.back h2 _ _ _).less hsub⟩ ⟨gs, hl0, h1, fun e he => h2.blk e.1 e.2.1 e.2.2 (List.mem_append_right _ he), ?_⟩
   have := h2.apart
   rwa [List.map_append, hG, hLA _ _ hl0] at this
  | _ => exact hq.elim
 ·-- the body
  intro l pre x a' W hl _ hI0' ⟨gs, hl0, h1, h2, h3⟩ hlen
  obtain ⟨hH, hI⟩ := hI0'
  have hst : St (rb w0 W l) W (LL pre ++ LA x gs) := by
   refine ⟨hI.below, fun g t cs hm => ?_, ?_, Nat.le_refl _, fun _ _ _ h _ => h⟩
   ·rcases List.mem_append.1 hm with hm | hm
    ·exact hI.blk g t cs hm
    ·exact h2 (g, t, cs) hm
   ·rw [List.map_append, hG, hLA _ _ hl0]
    exact h3
  refine wpIn_mono (hbody l W pre x gs hl0 hlen hH a' W h1 hst) fun e a3 W3 hq => ?_
  cases e with
  | normal => exact ⟨hI.keeps hq.2 hsz0, hK hI hq.2 (List.Sublist.refl _), hq.1, hI.back hq.2 _ _ _⟩
  | ret => exact ⟨hI.keeps hq.2 hsz0, rfl, hq.1, hI.back hq.2 _ _ _⟩
  | _ => exact hq.elim
 ·intro D xs W hD hS hI hd
  exact hdone D W xs hS hI.1 (Nat.le_trans hsz0 hD) hd _ W ⟨by simp [had], ha.2.1, ha.2.2⟩ (hI.2.refix _ _ _)
 ·rintro D c pre W hD hS ⟨rfl, hx, hI⟩ hd
  exact wpIn_ret (hstop D W pre hS hx (Nat.le_trans hsz0 hD) hd _ W ⟨by simp [had], ha.2.1, ha.2.2⟩ (hI.refix _ _ _))

theorem bpN {α : Type} {l : Nat} {HI : List α → Prop} {LL XR : List α → Blocks} {HX : List α → Prop} {pre : List α} (m : List Bool) {M : Blocks} (hL : sel L m = M) (hM : M = LL pre) (hi : HI pre) : X (rb w0 fz0 l) n (BP w0 fz0 l HI LL XR HX pre) F L .normal := fun _ _ _ hw => by
 subst hL
 refine ⟨hi, ?_⟩
 rw [← hM]
 exact hw.less (sel_sub L m)
theorem apN {l na : Nat} {FA : List Nat → Slots} {LP : Blocks} {LA : List Nat → Blocks} (gs : List Nat) (hg : gs.length = na) (hF : ∀ p ∈ FA gs, F.lookup p.1 = some p.2) (m : List Bool) (hL : sel L m = LP ++ LA gs) : X (rb w0 fz0 l) n (AP w0 fz0 l n na FA LP LA) F L .normal := fun _ _ ha hw => ⟨gs, hg, ha.all hF, hL ▸ hw.less (sel_sub L m)⟩

def GetsN (w : World) (R : Value → Blocks → Prop) (e : Ending) (w' : World) : Prop := ∃ v M, e = .returned v ∧ R v M ∧ Below w.heap.size w w' ∧ (∀ g t cs, (g, t, cs) ∈ M → w.heap.size ≤ g ∧ Blk w' g t cs) ∧ (M.map (·.1)).Nodup
theorem St.addN {w0 : Base} {w w' : World} {L M : Blocks} (h : St w0 w L) (hg : Gr w w') (hM : ∀ g t cs, (g, t, cs) ∈ M → w.heap.size ≤ g ∧ Blk w' g t cs) (hn : (M.map (·.1)).Nodup) : St w0 w' (L ++ M) := by
 have h' := h.gr hg
 refine ⟨h'.below, fun g t cs hm => ?_, ?_, h'.size, h'.non⟩
 ·rcases List.mem_append.1 hm with hm | hm
  ·exact h'.blk g t cs hm
  ·exact ⟨Nat.le_trans h.below.size (hM g t cs hm).1, (hM g t cs hm).2⟩
 ·rw [List.map_append, List.nodup_append]
  refine ⟨h.apart, hn, fun x hx y hy e => ?_⟩
  obtain ⟨⟨g, t, cs⟩, hm, rfl⟩ := List.mem_map.1 hx
  obtain ⟨⟨g', t', cs'⟩, hm', rfl⟩ := List.mem_map.1 hy
  have h1 := (h.blk g t cs hm).2.lt
  have h2 := (hM g' t' cs' hm').1
  have e' : g = g' := e
  omega
theorem callN {w0 : Base} {ops : Array Oper} {o : Oper} {l : List Oper} (hg : good ops n F o = true) (f : FuncId) (args : Array Value) (he : ∀ w, (execOp (evF F) o).run P w = .ok (.enter f args) w) (R : Value → Blocks → Prop)
  (hc : ∀ w, St w0 w L → Calls P f args w (GetsN w R)) (h : ∀ v M, R v M → wpS P w0 n ops Q (putF F o.dst v) (L ++ M) l) : wpS P w0 n ops Q F L (o :: l) := fun a w ha hw => by
 obtain ⟨g1, _, g3, _⟩ := good_spec hg
 refine wpList_step fun K hK => ?_
 rw [if_pos (ha.wanted g1)]
 unfold Oper.wp
 rw [good_exec hg ha, he w]
 refine Calls.mono (hc w hw) fun e w' he' => ?_
 obtain ⟨v, M, rfl, hR, hb, hM, hn⟩ := he'
 exact hK _ _ (h v M hR _ _ (ha.put g3 v) (hw.addN hb hM hn))
theorem callND {w0 : Base} {ops : Array Oper} {ex : Nat → Bool} {fuel : Nat} {listed : Array Bool} (k : Nat) {oi : Oper} (hi0 : ops.toList[k]? = some oi) (hr : Region.ready .any ops listed = [k]) (hg : good ops n F oi = true) (f : FuncId) (args : Array Value)
  (he : ∀ w, (execOp (evF F) oi).run P w = .ok (.enter f args) w) (R : Value → Blocks → Prop) (hc : ∀ w, St w0 w L → Calls P f args w (GetsN w R)) (h : ∀ v M, R v M → wpD P w0 n ops Q ex (putF F oi.dst v) (L ++ M) fuel (listed.setIfInBounds k true)) : wpD P w0 n ops Q ex F L (fuel + 1) listed := fun a w ha hw =>
 wpAnyG_sole k hi0 hr (ha.wanted (good_spec hg).1) fun w1 h1 K hK => by
  unfold Oper.wp
  rw [good_exec hg ha, he w1]
  refine Calls.mono (hc w1 (hw.gr h1)) fun e w' he' => ?_
  obtain ⟨v, M, rfl, hR, hb, hM, hn⟩ := he'
  exact hK _ _ (fun _ => hb) (h v M hR _ _ (ha.put (good_spec hg).2.2.1 v) ((hw.gr h1).addN hb hM hn))

theorem St.unmark {w0 fz : World} {D : Nat} {w : World} (h : St (ab w0 fz D) w L) (hD : w0.heap.size ≤ D) (hm : fz.heap[D]? = some (.deferred (some []))) :
  (Instr.takeDeferred D).run P w = .ok [] (w.putObj D (.deferred none)) ∧ St (Base.of w0) (w.putObj D (.deferred none)) L := by
 have ho := h.non D _ hD hm rfl
 have hg := grownBy_putObj' w D (.deferred none)
 refine ⟨run_takeDeferred ho, ?_⟩
 have h1 : St ⟨w0, w0, [], Fence.wide, 9⟩ w L := ⟨h.below, h.blk, h.apart, h.below.size, fun k o hk hq _ => by have := (Array.getElem?_eq_some_iff.1 hq).1; exact absurd this (by show ¬ k < w0.heap.size; have : w0.heap.size ≤ k := hk; omega)⟩
 exact h1.own (B := w0.heap.size) (Nat.le_refl _) (Nat.le_refl _) hg (fun r e => by cases e; exact ⟨hD, _, ho, rfl⟩)
theorem retM1 {w1 fz : World} {D : Nat} {fn : Func} {r : ResultVar} {v : Value} (hr : fn.results = #[r]) (h : Has P F L r v) (hD : w1.heap.size ≤ D) (hm : fz.heap[D]? = some (.deferred (some []))) : X (ab w1 fz D) n (bodyPostM Fence.wide 9 P fn (Gets w1 v)) F L .ret := fun a w ha hw => by
 obtain ⟨e1, e2⟩ := St.unmark (P := P) hw hD hm
 have hd : a.defers = [mark D] := ha.1
 show LeavesInM Fence.wide 9 P fn a.tmps (Gets w1 v) a.defers .returning w
 rw [hd]
 refine ⟨by simp, .inl ⟨D, _, rfl, e1, ?_⟩⟩
 refine ⟨v, ?_, rfl, e2.below⟩
 rcases Res.run h ha e2 with ⟨t, rfl, f1⟩ | ⟨t, ty, ad, rfl, f1, f2⟩ <;> simp [results, Result.andThen, *]
end
end Go.Proofs.YtbofhoonlmikcaaGreatDoor.Sy

end
section
namespace Go.Proofs.YtbofhoonlmikcaaGreatDoor.Sy
open Go.RowKit Go.Proofs.YtbofhoonlmikcaaGreatDoor

abbrev pb (W : World) (m : Nat) : Base := ⟨W, W, [], Fence.wide, m⟩
theorem St.here (W : World) (m : Nat) : St (pb W m) W [] := ⟨Below.refl _ _, (fun _ _ _ h => by cases h), List.Pairwise.nil, Nat.le_refl _, fun _ _ _ h _ => h⟩
theorem St.grown {W w : World} {m : Nat} {L : Blocks} (h : St (pb W m) w L) : Gr W w := h.below

section
variable {P : Program} {W : World} {m n : Nat} {Q : Exit → Act → World → Prop} {F : Slots} {L : Blocks} {ops : Array Oper} {o : Oper} {rest : List Oper}
theorem operIn_wide {o : Oper} {a : Act} {w : World} {K : Act → World → Prop} (hd : ∀ c, o.op ≠ .defer c) (h : o.wp P a w K Q) : o.wpIn Fence.wide m P a w K Q := by
 unfold Oper.wpIn
 refine ⟨fun _ _ => trivial, ?_⟩
 rw [Oper.semAt_plain _ _ _ hd]
 unfold Oper.wp at h
 generalize (execOp a.eval o).run P w = r at *
 cases r with
 | ok x w' =>
  cases x <;> simp only [Oper.upon, Oper.uponIn] at h ⊢ <;> first
   | exact h
   | exact ⟨fun e => by simp [Fence.wide] at e, callsIn_wide.2 h⟩
   | exact ⟨fun e => by simp [Fence.wide] at e, fun c cs _ => let ⟨v, w', r, s⟩ := h c cs; ⟨v, w', r, stepsIn_wide.2 s⟩⟩
   | exact h.elim
 | halt x w' => cases x <;> simp only [Oper.upon, Oper.uponIn] at h ⊢ <;> exact h
def thenI (P : Program) (ops : Array Oper) (m : Nat) (rest : List Oper) (Q : Exit → Act → World → Prop) : Exit → Act → World → Prop
 | .normal, a, w => wpListIn Fence.wide m P ops Q rest a w
 | e, a, w => Q e a w
theorem listIn_app (hq : ¬ LetsOut Q) : ∀ (l : List Oper), (∀ o ∈ l, ∀ c, o.op ≠ .defer c) → ∀ (a : Act) (w : World), wpList P ops (thenI P ops m rest Q) l a w → wpListIn Fence.wide m P ops Q (l ++ rest) a w
 | [], _, _, _, h => h
 | o :: l, hd, a, w, h => by
  have hq' : ¬ LetsOut (thenI P ops m rest Q) := fun ⟨a, w, q⟩ => hq ⟨a, w, q⟩
  unfold wpList at h
  show wpListIn Fence.wide m P ops Q (o :: (l ++ rest)) a w
  unfold wpListIn
  split
  ·rename_i hw
   simp only [hw, if_true] at h
   rcases h with h | h
   ·have h1 := operIn_wide (m := m) (hd o (by simp)) h
    have h2 : o.wpIn Fence.wide m P a w _ Q := h1
    exact Oper.wpIn_mono (fun a w h' => listIn_app hq l (fun o ho => hd o (by simp [ho])) a w h') h2
   ·exact absurd h.2 hq'
  ·rename_i hw
   simp only [hw] at h
   exact ⟨fun _ _ => trivial, listIn_app hq l (fun o ho => hd o (by simp [ho])) _ _ h⟩
theorem listIn_wide (hq : ¬ LetsOut Q) : ∀ (l : List Oper), (∀ o ∈ l, ∀ c, o.op ≠ .defer c) → ∀ (a : Act) (w : World), wpList P ops Q l a w → wpListIn Fence.wide m P ops Q l a w
 | [], _, _, _, h => h
 | o :: l, hd, a, w, h => by
  unfold wpList at h
  unfold wpListIn
  split
  ·rename_i hw
   simp only [hw, if_true] at h
   rcases h with h | h
   ·exact Oper.wpIn_mono (fun a w h' => listIn_wide hq l (fun o ho => hd o (by simp [ho])) a w h') (operIn_wide (hd o (by simp)) h)
   ·exact absurd h.2 hq
  ·rename_i hw
   simp only [hw] at h
   exact ⟨fun _ _ => trivial, listIn_wide hq l (fun o ho => hd o (by simp [ho])) _ _ h⟩
theorem noDefer_mem (h : noDefer ops = true) {o : Oper} (ho : o ∈ ops.toList) : ∀ c, o.op ≠ .defer c := by
 obtain ⟨i, hi⟩ := List.mem_iff_getElem?.1 ho
 exact noDefer_spec h (by simpa using hi)
theorem regionY {i : Nat} (k : Nat) (hq : ¬ LetsOut Q) (hd : noDefer ops = true) (h : wpS P (pb W m) n ops (thenI P ops m (ops.toList.drop k) Q) F L (ops.toList.take k)) : wpC P (pb W m) n Q F L (.region i ops false) := fun a w ha hw => by
 refine wpIn_region_list ?_
 have h1 := listIn_app hq (ops.toList.take k) (fun o ho => noDefer_mem hd (List.mem_of_mem_take ho)) a w (h a w ha hw)
 rwa [List.take_append_drop] at h1
theorem yieldX {ro : Option Nat} {k : Nat} (hl : ops.toList.drop k = o :: rest) (hq : ¬ LetsOut Q) (hd : noDefer ops = true) (hg : good ops n F o = true) (l : Nat) (args : Array Value) (he : ∀ w, (execOp (evF F) o).run P w = (Instr.yield l args).run P w)
  (R : Ending → World → Prop) (hY : ∀ w, Gr W w → YieldAt Fence.wide (m - 1) P l args w R) (hR : ∀ e w', R e w' → ∃ b, e = .returned (.bool b)) (_ : ro = none)
  (h : ∀ w' b, R (.returned (.bool b)) w' → wpS P (pb w' m) n ops Q (putF F o.dst (.bool b)) [] rest) : X (pb W m) n (thenI P ops m (ops.toList.drop k) Q) F L .normal := fun a w ha hw => by
 show wpListIn Fence.wide m P ops Q (ops.toList.drop k) a w
 have hdr : ∀ o ∈ ops.toList.drop k, ∀ c, o.op ≠ .defer c := fun o ho => noDefer_mem hd (List.mem_of_mem_drop ho)
 rw [hl] at hdr ⊢
 obtain ⟨g1, _, g3, _⟩ := good_spec hg
 unfold wpListIn
 rw [if_pos (ha.wanted g1)]
 unfold Oper.wpIn
 refine ⟨fun _ _ => trivial, ?_⟩
 rw [Oper.semAt_plain _ _ _ (hdr o (by simp)), good_exec hg ha, he w]
 obtain ⟨fn, tmps, assign, body, e1, e2⟩ := hY w hw.grown
 rw [e1]
 refine ⟨fun e => by simp [Fence.wide] at e, e2.mono fun e w' hr => ?_⟩
 obtain ⟨b, rfl⟩ := hR e w' hr
 exact listIn_wide hq rest (fun o ho => hdr o (by simp [ho])) _ _ (h w' b hr _ _ (ha.put g3 _) (St.here w' m))

theorem abides_gr {β : Type} {B : Nat} {J : β → World → Prop} (h : AbidesFrom B J) {s : β} {X Y : World} (hj : J s X) (hg : Gr X Y) : J s Y := h s X Y none hj (only_of_below hg none) (fun r e => by cases e)
theorem yield_mono {l : Nat} {args : Array Value} {R R' : Ending → World → Prop} (h : YieldAt Fence.wide m P l args W R) (hr : ∀ e w, R e w → R' e w) : YieldAt Fence.wide m P l args W R' := by
 obtain ⟨fn, tmps, assign, body, e1, e2⟩ := h
 exact ⟨fn, tmps, assign, body, e1, e2.mono hr⟩

def NextP (n N : Nat) (FF : Nat → Slots) (Z : Nat → World → Prop) (k : Nat) : Act → World → Prop := fun a w => k < N ∧ Fr [] a n (FF (k + 1)) ∧ Z (k + 1) w
theorem loopP {c : Code} (N : Nat) (FF : Nat → Slots) (Z : Nat → World → Prop) (hF : ∀ p ∈ FF 0, F.lookup p.1 = some p.2) (h0 : ∀ w, Gr W w → Z 0 w)
  (hr : ∀ k w, k ≤ N → Z k w → wpC P (pb w m) n (Exit.then (NextP n N FF Z k) Q) (FF k) [] c) : wpC P (pb W m) n Q F L (.loop c) :=
 loopI N (fun k a w => Fr [] a n (FF k) ∧ Z k w) (fun a w ha hw => ⟨ha.all hF, h0 w hw.grown⟩)
  fun k hk a w ⟨ha, hz⟩ => hr k w hk hz a w ha (St.here w m)
theorem againP {N : Nat} {FF : Nat → Slots} {Z : Nat → World → Prop} {k : Nat} {R : Exit → Act → World → Prop} (hk : k < N) (hF : ∀ p ∈ FF (k + 1), F.lookup p.1 = some p.2) (hz : ∀ w, Gr W w → Z (k + 1) w) :
  X (pb W m) n (Exit.then (NextP n N FF Z k) R) F L .normal := fun _ w ha hw => ⟨hk, ha.all hF, hz w hw.grown⟩
theorem enterP {f : FuncId} {fn : Func} {c : Code} {args : List Value} {R : Ending → World → Prop} (hf : P.funcs[f]? = some fn) (hb : fn.body = some c) (hn : args.length ≤ fn.ntmps)
  (h : wpC P (pb W m) fn.ntmps (bodyPost P fn R) (slotsOf 0 args) [] c) : CallsIn Fence.wide m P f args.toArray W R :=
 callsIn_of_wp hf hb trivial (h _ _ ⟨rfl, by simp; omega, fun i v hi => by
  have := (lookup_slotsOf args 0 i v hi).2
  rw [Nat.sub_zero] at this
  have hl := (List.getElem?_eq_some_iff.1 this).1
  rw [Array.getElem?_append_left (by simpa using hl)]
  simpa using this⟩ (St.here W m)) rfl
theorem retP {fn : Func} {R : Ending → World → Prop} (hr : fn.results = #[]) (h : ∀ v w, Gr W w → R (.returned v) w) {e : Exit} (he : e = .ret ∨ e = .normal) : X (pb W m) n (bodyPost P fn R) F L e := fun a w ha hw => by
 have hx : a.defers = [] ∧ ∃ v, (results fn a.tmps).run P w = .ok v w ∧ R (.returned v) w := ⟨ha.1, _, results_none hr _ _ _, h _ w hw.grown⟩
 rcases he with rfl | rfl <;> exact hx
end
end Go.Proofs.YtbofhoonlmikcaaGreatDoor.Sy

end
section
namespace Go.Proofs.YtbofhoonlmikcaaGreatDoor.Cu
open Go.RowKit Go.Proofs.YtbofhoonlmikcaaGreatDoor Go.Proofs.YtbofhoonlmikcaaGreatDoor.Sy
set_option maxRecDepth 100000
set_option maxHeartbeats 4000000

def chV (b off m c : Nat) : Value := .slice (some ⟨b, off + 32 * c * 13, none⟩) (szC m c) (szC m c)
def chE (b off m : Nat) {N : Nat} (x : Fin N) : Array Value := #[chV b off m x.val]
set_option maxHeartbeats 1000000 in
theorem chunk_any (w : World) (A : Option Addr) (m cap : Nat) :
    Calls Tryz.prog 117 #[.slice A m cap, .int .i64 32] w (GetsN w fun v M => ∃ g1 g2, v = .func (.func 160) #[] #[.pointer (some ⟨g1, 0, none⟩), .pointer (some ⟨g2, 0, none⟩)] ∧ M = [(g1, 106, #[.slice A m cap]), (g2, 3, #[.int .i64 32])]) := by
  go_enter Tryz.func117, Tryz.ntmps117
  go_wp2
  go_ret
  refine ⟨_, _, rfl, ⟨_, _, rfl, rfl⟩, below_alloc2 w _ _, fun g t cs hm => ?_, ?_⟩
  · simp only [List.mem_cons, List.not_mem_nil, or_false, Prod.mk.injEq] at hm
    rcases hm with ⟨rfl, rfl, rfl⟩ | ⟨rfl, rfl, rfl⟩
    · exact ⟨Nat.le_refl _, (Blk.new w _ _).alloc _⟩
    · exact ⟨by omega, blk_new2 w _ _ _⟩
  · simp
theorem chunk1_in (n l Bs Bn n₀ b off m cap N : Nat) (hN0 : N = (m + 31) / 32) (hm : m ≤ cap) (hm2 : m ≤ 4611686018427387904) (J Jx : List (Fin N) → World → Prop) (W : World) (hJ : AbidesFrom W.heap.size J) (hJx : AbidesFrom W.heap.size Jx)
    (hY : ∀ pre x W1, J pre W1 → pre.length < N → YieldAt Fence.wide (n - 1) Tryz.prog l (chE b off m x) W1 fun e W' => (e = .returned (.bool true) ∧ J (pre ++ [x]) W' ∧ KpL n₀ [(Bs, 106, #[.slice (some ⟨b, off, none⟩) m cap]), (Bn, 3, #[.int .i64 32])] W1 W') ∨ (e = .returned (.bool false) ∧ Jx (pre ++ [x]) W'))
    (hS : Blk W Bs 106 #[.slice (some ⟨b, off, none⟩) m cap]) (hN : Blk W Bn 3 #[.int .i64 32]) (h0 : J [] W) :
    CallsIn Fence.wide n Tryz.prog 160 #[.func (.yield l) #[] #[], .pointer (some ⟨Bs, 0, none⟩), .pointer (some ⟨Bn, 0, none⟩)] W fun e W' => (∃ v, e = .returned v) ∧ ((∃ ys : List (Fin N), ys.map (·.1) = List.range N ∧ J ys W') ∨ (∃ pre : List (Fin N), (∃ k, k ≤ N ∧ pre.map (·.1) = List.range k) ∧ Jx pre W')) := by
  refine Sy.enterP (args := [.func (.yield l) #[] #[], .pointer (some ⟨Bs, 0, none⟩), .pointer (some ⟨Bn, 0, none⟩)]) Tryz.func160 rfl kL ?_
  refine sC ?_
  refine sP (.int .i64 0) ?_
  refine sG <| Sy.block ?_
  refine Sy.loopP N (fun k1 => [(0, .func (.yield l) #[] #[]), (1, .pointer (some ⟨Bs, 0, none⟩)), (2, .pointer (some ⟨Bn, 0, none⟩)), (4, .int .i64 ((32 * k1 : Nat) : Int))]) (fun k1 w => ∃ pre : List (Fin N), pre.map (·.1) = List.range k1 ∧ J pre w ∧ Blk w Bs 106 #[.slice (some ⟨b, off, none⟩) m cap] ∧ Blk w Bn 3 #[.int .i64 32]) (all_cons kR (all_cons kR (all_cons kR (all_cons kR all_nil)))) (fun w hg => ⟨[], rfl, abides_gr hJ h0 hg, hg.blk hS, hg.blk hN⟩) (fun k1 wr hk1 hz => ?_)
  clear hS hN
  obtain ⟨pre, hpre, hj, hS, hN⟩ := hz
  have hlen : pre.length = k1 := by have := congrArg List.length hpre; rwa [List.length_map, List.length_range] at this
  refine Sy.seq <| sC ?_
  refine sP (.int .i64 ((32 * k1 : Nat) : Int)) <| sS (.slice (some ⟨b, off, none⟩) m cap) (Quiet.thereOne Bs 0 106 _ _ rfl kR hS.lt _ (hS.cell 0) Tryz.underlying106 rfl) <| sP (.int .i64 ((m : Nat) : Int)) ?_
  obtain ⟨b1, hb1⟩ : ∃ z : Bool, z = decide (32 * k1 < m) := ⟨_, rfl⟩
  refine sS (.bool b1) (Quiet.pure (exec_int .lss _ _ _ .i64 _ _ _ rfl rfl rfl (int_lss _ _ _ _ _ (by rw [hb1]; exact decide_eq_decide.2 (by omega))))) ?_
  refine sG ?_
  cases b1
  · have lb1 : ¬ (32 * k1 < m) := of_decide_eq_false hb1.symm
    refine sU <| Sy.exit <| Sy.then_exit <| Sy.then_exit ?_
    obtain rfl : N = k1 := by omega
    refine Sy.in_exit ?_
    exact Sy.retP rfl (fun v w3 hg => ⟨⟨_, rfl⟩, .inl ⟨pre, hpre, abides_gr hJ hj hg⟩⟩) (.inr rfl)
  · have lb1 : 32 * k1 < m := of_decide_eq_true hb1.symm
    refine sT <| Sy.skip <| Sy.then_ <| Sy.seq <| Sy.block <| Sy.seq ?_
    refine Sy.regionD (fun j => false) kR ?_
    refine sD 0 rfl (.int .i64 ((32 : Nat) : Int)) (Quiet.thereOne Bn 0 3 _ _ rfl kR hN.lt _ (hN.cell 0) Tryz.underlying3 rfl) <| sD 1 rfl (.slice (some ⟨b, off, none⟩) m cap) (Quiet.thereOne Bs 0 106 _ _ rfl kR hS.lt _ (hS.cell 0) Tryz.underlying106 rfl) <| sZ 2 rfl (.int .i64 ((32 * k1 : Nat) : Int)) <| sD 3 rfl (.slice (some ⟨b, off + (32 * k1) * 13, none⟩) (m - (32 * k1)) (cap - (32 * k1))) (Quiet.pure (exec_sl1 _ _ _ b off m cap (32 * k1) 13 .i64 rfl rfl rfl kR kF (by omega) (by omega))) <| sZ 4 rfl (.int .i64 (((m - (32 * k1)) : Nat) : Int)) ?_
    obtain ⟨sz, hsz⟩ : ∃ z, z = szC m k1 := ⟨_, rfl⟩
    have hs : 0 < sz ∧ 32 * k1 + sz ≤ m := by rw [hsz]; unfold szC; omega
    refine sD 5 rfl (.int .i64 ((sz : Nat) : Int)) (Quiet.pure (exec_min _ _ .i64 32 (m - (32 * k1)) sz rfl rfl rfl (by rw [hsz]; unfold szC; omega))) <| sZ 6 rfl (.int .i64 ((sz : Nat) : Int)) ?_
    refine sI ?_
    refine Sy.seq ?_
    have hx : k1 < N := by omega
    refine Sy.regionY 10 (by rintro ⟨_, _, ⟨_, hv⟩, _⟩; cases hv) kR ?_
    refine sP (.func (.yield l) #[] #[]) <| sS (.slice (some ⟨b, off, none⟩) m cap) (Quiet.thereOne Bs 0 106 _ _ rfl kR hS.lt _ (hS.cell 0) Tryz.underlying106 rfl) <| sP (.int .i64 ((32 * k1 : Nat) : Int)) <| sP (.int .i64 ((32 * k1 : Nat) : Int)) <| sP (.int .i64 ((sz : Nat) : Int)) <| sS (.int .i64 (((32 * k1) + sz : Nat) : Int)) (Quiet.pure (exec_int .add _ _ _ .i64 _ _ _ rfl rfl rfl (int_add _ _ _ _ _ ((wrap_i64 (by omega) (by omega)).trans (by omega))))) <| sP (.int .i64 ((32 * k1 : Nat) : Int)) <| sP (.int .i64 ((sz : Nat) : Int)) ?_
    refine sS (.int .i64 (((32 * k1) + sz : Nat) : Int)) (Quiet.pure (exec_int .add _ _ _ .i64 _ _ _ rfl rfl rfl (int_add _ _ _ _ _ ((wrap_i64 (by omega) (by omega)).trans (by omega))))) <| sS (.slice (some ⟨b, off + (32 * k1) * 13, none⟩) (((32 * k1) + sz) - (32 * k1)) (((32 * k1) + sz) - (32 * k1))) (Quiet.pure (exec_sl3 _ _ _ _ _ b off m cap (32 * k1) ((32 * k1) + sz) ((32 * k1) + sz) 13 .i64 .i64 .i64 rfl rfl rfl rfl rfl kR kF (by have := hs; omega) (by have := hs; omega) (by have := hs; omega) (by have := hs; omega))) ?_
    refine Sy.nil ?_
    refine Sy.yieldX (ro := none) rfl (by rintro ⟨_, _, ⟨_, hv⟩, _⟩; cases hv) kR kR l #[.slice (some ⟨b, off + (32 * k1) * 13, none⟩) (((32 * k1) + sz) - (32 * k1)) (((32 * k1) + sz) - (32 * k1))] kF (fun e W' => (e = .returned (.bool true) ∧ J (pre ++ [⟨k1, hx⟩]) W' ∧ Blk W' Bs 106 #[.slice (some ⟨b, off, none⟩) m cap] ∧ Blk W' Bn 3 #[.int .i64 32]) ∨ (e = .returned (.bool false) ∧ Jx (pre ++ [⟨k1, hx⟩]) W')) (fun w hg => by
            have e : chE b off m ⟨k1, hx⟩ = #[.slice (some ⟨b, off + 32 * k1 * 13, none⟩) (32 * k1 + sz - 32 * k1) (32 * k1 + sz - 32 * k1)] := by unfold chE chV; rw [← hsz, Nat.add_sub_cancel_left]
            have y := hY pre ⟨k1, hx⟩ w (abides_gr hJ hj hg) (by omega)
            rw [e] at y
            exact yield_mono y (fun e w' q => q.imp (fun q => ⟨q.1, q.2.1, q.2.2.2 (Bs, 106, _) (by simp) (hg.blk hS), q.2.2.2 (Bn, 3, _) (by simp) (hg.blk hN)⟩) id)) (fun e w' q => q.elim (fun q => ⟨_, q.1⟩) (fun q => ⟨_, q.1⟩)) rfl (fun w2 b hr => ?_)
    cases b
    · have hx2 := hr.elim (fun q => by cases q.1) (fun q => q.2)
      refine sP (.bool true) ?_
      refine sG <| sT <| Sy.ret <| Sy.in_ret <| Sy.then_ret <| Sy.then_ret <| Sy.in_ret ?_
      exact Sy.retP rfl (fun v w3 hg => ⟨⟨_, rfl⟩, .inr ⟨pre ++ [⟨k1, hx⟩], ⟨k1 + 1, by omega, by rw [List.map_append, hpre, List.range_succ]; rfl⟩, abides_gr hJx hx2 hg⟩⟩) (.inl rfl)
    · clear hS hN hj
      obtain ⟨hj, hS, hN⟩ := hr.elim (fun q => q.2) (fun q => by cases q.1)
      refine sP (.bool false) ?_
      refine sG <| sU <| Sy.skip <| Sy.in_ <| Sy.then_ <| Sy.region ?_
      refine sP (.int .i64 ((32 * k1 : Nat) : Int)) <| sS (.int .i64 ((32 : Nat) : Int)) (Quiet.thereOne Bn 0 3 _ _ rfl kR hN.lt _ (hN.cell 0) Tryz.underlying3 rfl) <| sS (.int .i64 (((32 * k1) + 32 : Nat) : Int)) (Quiet.pure (exec_int .add _ _ _ .i64 _ _ _ rfl rfl rfl (int_add _ _ _ _ _ ((wrap_i64 (by omega) (by omega)).trans (by omega))))) <| sP (.int .i64 (((32 * k1) + 32 : Nat) : Int)) ?_
      refine Sy.nil ?_
      exact Sy.againP (by omega) (all_cons kR (all_cons kR (all_cons kR (all_cons kR all_nil)))) (fun w3 hg => ⟨pre ++ [⟨k1, hx⟩], by rw [List.map_append, hpre, List.range_succ]; rfl, abides_gr hJ hj hg, hg.blk hS, hg.blk hN⟩)
theorem chunk0_in (n l Bs Bn cap : Nat) (A : Option Addr) (J Jx : List (Fin 0) → World → Prop) (W : World) (hJ : AbidesFrom W.heap.size J)
    (hS : Blk W Bs 106 #[.slice A 0 cap]) (hN : Blk W Bn 3 #[.int .i64 32]) (h0 : J [] W) :
    CallsIn Fence.wide n Tryz.prog 160 #[.func (.yield l) #[] #[], .pointer (some ⟨Bs, 0, none⟩), .pointer (some ⟨Bn, 0, none⟩)] W fun e W' => (∃ v, e = .returned v) ∧ ((∃ ys : List (Fin 0), ys.map (·.1) = List.range 0 ∧ J ys W') ∨ (∃ pre : List (Fin 0), (∃ k, k ≤ 0 ∧ pre.map (·.1) = List.range k) ∧ Jx pre W')) := by
  refine Sy.enterP (args := [.func (.yield l) #[] #[], .pointer (some ⟨Bs, 0, none⟩), .pointer (some ⟨Bn, 0, none⟩)]) Tryz.func160 rfl kL ?_
  refine sC ?_
  refine sP (.int .i64 0) ?_
  refine sG <| Sy.block ?_
  refine Sy.loopP 0 (fun k1 => [(0, .func (.yield l) #[] #[]), (1, .pointer (some ⟨Bs, 0, none⟩)), (2, .pointer (some ⟨Bn, 0, none⟩)), (4, .int .i64 ((32 * k1 : Nat) : Int))]) (fun k1 w => J [] w ∧ Blk w Bs 106 #[.slice A 0 cap] ∧ Blk w Bn 3 #[.int .i64 32]) (all_cons kR (all_cons kR (all_cons kR (all_cons kR all_nil)))) (fun w hg => ⟨abides_gr hJ h0 hg, hg.blk hS, hg.blk hN⟩) (fun k1 wr hk1 hz => ?_)
  clear hS hN
  obtain ⟨hj, hS, hN⟩ := hz
  refine Sy.seq <| sC ?_
  refine sP (.int .i64 ((32 * k1 : Nat) : Int)) <| sS (.slice A 0 cap) (Quiet.thereOne Bs 0 106 _ _ rfl kR hS.lt _ (hS.cell 0) Tryz.underlying106 rfl) <| sP (.int .i64 ((0 : Nat) : Int)) ?_
  obtain ⟨b1, hb1⟩ : ∃ z : Bool, z = decide (32 * k1 < 0) := ⟨_, rfl⟩
  refine sS (.bool b1) (Quiet.pure (exec_int .lss _ _ _ .i64 _ _ _ rfl rfl rfl (int_lss _ _ _ _ _ (by rw [hb1]; exact decide_eq_decide.2 (by omega))))) ?_
  refine sG ?_
  cases b1
  · have lb1 : ¬ (32 * k1 < 0) := of_decide_eq_false hb1.symm
    refine sU <| Sy.exit <| Sy.then_exit <| Sy.then_exit ?_
    obtain rfl : k1 = 0 := by omega
    refine Sy.in_exit ?_
    exact Sy.retP rfl (fun v w3 hg => ⟨⟨_, rfl⟩, .inl ⟨[], rfl, abides_gr hJ hj hg⟩⟩) (.inr rfl)
  · have lb1 : 32 * k1 < 0 := of_decide_eq_true hb1.symm
    refine sT <| Sy.skip <| Sy.then_ <| Sy.seq ?_
    exact absurd lb1 (by omega)
def TSrc (w : World) (A : Option Addr) (n : Nat) (T : Nat → Trm) (b o : Nat) : Prop := 0 < n → A = some ⟨b, o, none⟩ ∧ b < w.heap.size ∧ ∀ j, j < n → w.rangeAt b (o + j * 13) (T j).cells
theorem chunk_stops (n Bs Bn n₀ b off m cap N : Nat) (A : Option Addr) (hN0 : N = (m + 31) / 32) (hm : m ≤ cap) (hm2 : m ≤ 4611686018427387904) (hA : 0 < m → A = some ⟨b, off, none⟩) (w : World) (hS : Blk w Bs 106 #[.slice A m cap]) (hN : Blk w Bn 3 #[.int .i64 32]) :
    SeqStopsK Fence.wide n Tryz.prog 160 #[.pointer (some ⟨Bs, 0, none⟩), .pointer (some ⟨Bn, 0, none⟩)] (chE b off m (N := N)) (KpL n₀ [(Bs, 106, #[.slice A m cap]), (Bn, 3, #[.int .i64 32])]) (fun ys => ys.map (·.1) = List.range N) (fun pre => ∃ k, k ≤ N ∧ pre.map (·.1) = List.range k) N w := fun l J Jx W hW hJ hJx hY h0 => by
  have hS' := hS.below hW hS.lt
  have hN' := hN.below hW hN.lt
  rcases Nat.eq_zero_or_pos m with h | h
  · subst h
    obtain rfl : N = 0 := hN0
    exact chunk0_in n l Bs Bn cap A J Jx W hJ hS' hN' h0
  · obtain rfl := hA h
    exact chunk1_in n l Bs Bn n₀ b off m cap N hN0 hm hm2 J Jx W hJ hJx hY hS' hN' h0
end Go.Proofs.YtbofhoonlmikcaaGreatDoor.Cu

end
section
namespace Go.Proofs.YtbofhoonlmikcaaGreatDoor.Cu
open Go.RowKit Go.Proofs.YtbofhoonlmikcaaGreatDoor Go.Proofs.YtbofhoonlmikcaaGreatDoor.Sy

theorem rangeN2 {w w' : World} {g o o' : Nat} {vs : List Value} (h : w.rangeAt g o vs) (hb : Below w.heap.size w w') (hg : g < w.heap.size) (e : o' = o) : w'.rangeAt g o' vs := fun j v hj => by
 rw [e]
 exact (Below.cell (p := ⟨g, o + j, none⟩) hb hg).trans (h j v hj)
set_option maxHeartbeats 4000000 in
set_option maxRecDepth 100000 in
theorem multi_any (w : World) (A : Option Addr) (b o n c : Nat) (T : Nat → Trm) (hnc : n ≤ c) (hc : n ≤ 4611686018427387904) (hok : ∀ j, (T j).ok) (hT : TSrc w A n T b o) : Calls Tryz.prog 65 #[.slice A n c] w (Gets w (ptv (Ec.sumL finv (fun t => Ec.nm finv (T t).kn (T t).pt) (List.range n)))) := by
 obtain ⟨N, hN0⟩ : ∃ N, N = (n + 31) / 32 := ⟨_, rfl⟩
 obtain ⟨R, hR⟩ : ∃ R, R = ptJ (chL T n (List.range N)) := ⟨_, rfl⟩
 have hRs : Ec.sumL finv (fun t => Ec.nm finv (T t).kn (T t).pt) (List.range n) = R := by rw [hR, hN0]; exact (ptJ_rep (chL_all T n)).symm
 rw [hRs]
 have hRo : Ec.On R := by rw [← hRs]; exact Ec.On.sumL fld _ fun x _ => (T x).on.nm fld _
 obtain ⟨rx, ry, ri, _, _, eR, _, _⟩ := ptv_raw R hRo
 rw [eR]
 refine Sy.enterM (args := [.slice A n c]) Tryz.func65 rfl kL ?_
 refine sC ?_
 refine sM 52 (pcs 0 0 false) (fun g0 => ?_)
 refine sA ?_
 refine sM 152 (tcs 0 0 0) (fun g1 => ?_)
 refine sG <| Sy.seq <| sC ?_
 refine sP (.slice A n c) ?_
 refine Sy.callN kR 117 #[.slice A n c, .int .i64 32] kF (fun v M => ∃ g1 g2, v = .func (.func 160) #[] #[.pointer (some ⟨g1, 0, none⟩), .pointer (some ⟨g2, 0, none⟩)] ∧ M = [(g1, 106, #[.slice A n c]), (g2, 3, #[.int .i64 32])]) (fun w _ => chunk_any w _ _ _) (fun v M hR0 => ?_)
 obtain ⟨u1, u2, rfl, rfl⟩ := hR0
 refine sG <| Sy.block ?_
 refine Sy.rangeF (α := Fin N) 160 #[.pointer (some ⟨u1, 0, none⟩), .pointer (some ⟨u2, 0, none⟩)] kR kR (enters_of Tryz.func160 kR rfl) (chE b o n) [(u1, 106, (#[.slice A n c])), (u2, 3, (#[.int .i64 32]))] (fun ys => ys.map (·.1) = List.range N) (fun pre => ∃ k, k ≤ N ∧ pre.map (·.1) = List.range k) N (fun _ => rfl) (by decide) [g0, g1, u1, u2] (fun _ => True) (trivial) (fun pre => [(g0, 52, (pcs 0 0 false)), (g1, 152, (tcs ((chL T n (pre.map (·.1))).x.val) ((chL T n (pre.map (·.1))).y.val) ((chL T n (pre.map (·.1))).z.val))), (u1, 106, (#[.slice A n c])), (u2, 3, (#[.int .i64 32]))]) (fun pre => [(g0, 52, (pcs 0 0 false)), (g1, 152, (tcs ((chL T n (pre.map (·.1))).x.val) ((chL T n (pre.map (·.1))).y.val) ((chL T n (pre.map (·.1))).z.val))), (u1, 106, (#[.slice A n c])), (u2, 3, (#[.int .i64 32]))]) (fun _ => False) [true, true, true, true] kR (fun _ => rfl) ?_ ?_ 0 (fun x gs => [(3, .pointer (some ⟨g1, 0, none⟩)), (4, chV b o n x.val)]) (fun x gs => []) (fun x gs h => by cases gs with | nil => rfl | cons _ _ => cases h) ?_ ?_ ?_ ?_
 ·intro w hw
  have hS := hw.get (i := 2) rfl
  have hN := hw.get (i := 3) rfl
  exact ⟨w, Below.refl _ _, chunk_stops 8 u1 u2 _ b o n c N A hN0 hnc hc (fun h => (hT h).1) w hS hN⟩
 ·intro p hp pre
  simp only [List.mem_cons, List.not_mem_nil, or_false] at hp ⊢
  rcases hp with rfl | rfl <;> simp
 ·intro l fz pre x
  refine Sy.regionR (by rintro ⟨_, _, h⟩; exact h) kR ⟨_, rfl⟩ ?_
  refine sP (chV b o n x.val) ?_
  refine Sy.nil ?_
  exact Sy.apN [] rfl (all_cons kR (all_cons kR all_nil)) [true, true, true, true] kR
 ·intro l fz pre x gs hgs hlen hH
  obtain rfl : gs = [] := List.eq_nil_of_length_eq_zero hgs
  have hxN := x.isLt
  have hn0 : 0 < n := by omega
  refine Sy.block ?_
  refine Sy.regionRD (by rintro ⟨_, _, h⟩; exact h) kR ⟨_, rfl⟩ (fun j => j == 4) kR ?_
  refine sD 0 rfl (tv ((chL T n (pre.map (·.1))).x.val) ((chL T n (pre.map (·.1))).y.val) ((chL T n (pre.map (·.1))).z.val)) (qL 1 g1 0 12 152 152 (tcs ((chL T n (pre.map (·.1))).x.val) ((chL T n (pre.map (·.1))).y.val) ((chL T n (pre.map (·.1))).z.val)) rfl Tryz.underlying152) <| sZ 1 rfl (chV b o n x.val) ?_
  obtain ⟨j1, hj1⟩ : ∃ z : J, z = muJ (fun j => T (x.val * 32 + j)) (szC n x.val) 64 := ⟨_, rfl⟩
  refine sD 2 rfl (tv j1.x.val j1.y.val j1.z.val) (qG 119 #[chV b o n x.val] (fun w hw => by rw [hj1]; exact multi_c w b (o + 32 * x.val * 13) (szC n x.val) (szC n x.val) (fun j => T (x.val * 32 + j)) (Nat.lt_of_lt_of_le (hT hn0).2.1 hw.below.size) (by unfold szC; omega) (fun j => hok _) (fun j hj => rangeN2 ((hT hn0).2.2 (x.val * 32 + j) (by unfold szC at hj; omega)) hw.below (hT hn0).2.1 (by omega)))) ?_
  obtain ⟨j2, hj2⟩ : ∃ z : J, z = addJ (chL T n (pre.map (·.1))) j1 := ⟨_, rfl⟩
  refine sD 3 rfl (tv j2.x.val j2.y.val j2.z.val) (qF 118 #[tv ((chL T n (pre.map (·.1))).x.val) ((chL T n (pre.map (·.1))).y.val) ((chL T n (pre.map (·.1))).z.val), tv j1.x.val j1.y.val j1.z.val] (fun w => by rw [hj2]; exact addJ_c w (chL T n (pre.map (·.1))) j1)) <| sX 4 rfl 1 g1 152 (tcs ((chL T n (pre.map (·.1))).x.val) ((chL T n (pre.map (·.1))).y.val) ((chL T n (pre.map (·.1))).z.val)) (tcs j2.x.val j2.y.val j2.z.val) (wS 0 152 (tcs j2.x.val j2.y.val j2.z.val) rfl) ?_
  refine sE ?_
  refine Sy.in_ ?_
  exact Sy.bpN [true, true, true, true] (M := [(g0, 52, (pcs 0 0 false)), (g1, 152, (tcs j2.x.val j2.y.val j2.z.val)), (u1, 106, (#[.slice A n c])), (u2, 3, (#[.int .i64 32]))]) kR (bcons rfl (bcons (beq (by rw [hj2, hj1, List.map_append, List.map_singleton, chL_snoc]; rfl)) (bcons rfl (bcons rfl rfl)))) (trivial)
 ·intro D fz xs hS hH hD hm
  have hS0 : xs.map (·.1) = List.range N := hS
  refine Sy.in_ <| sB ?_
  refine sS (tv ((chL T n (xs.map (·.1))).x.val) ((chL T n (xs.map (·.1))).y.val) ((chL T n (xs.map (·.1))).z.val)) (qL 1 g1 0 12 152 152 (tcs ((chL T n (xs.map (·.1))).x.val) ((chL T n (xs.map (·.1))).y.val) ((chL T n (xs.map (·.1))).z.val)) rfl Tryz.underlying152) <| sS (pv rx ry ri) (qF 120 #[tv ((chL T n (xs.map (·.1))).x.val) ((chL T n (xs.map (·.1))).y.val) ((chL T n (xs.map (·.1))).z.val)] (fun w => by rw [← eR, hR, ← hS0]; exact point_c w _)) <| sW 0 g0 52 (pcs 0 0 false) (pcs rx ry ri) (wS 0 52 (pcs rx ry ri) rfl) ?_
  refine sG <| Sy.ret ?_
  exact Sy.retM1 (v := pv rx ry ri) rfl (.inl (Res.cell (ty' := 52) g0 0 (pcs rx ry ri) _ kR kR Tryz.underlying52 rfl kR kR)) hD hm
 ·intro D fz pre hS hx hD hm
  exact hx.elim
end Go.Proofs.YtbofhoonlmikcaaGreatDoor.Cu

end
section
namespace Go.Proofs.YtbofhoonlmikcaaGreatDoor.Cu
open Go.RowKit Go.Proofs.YtbofhoonlmikcaaGreatDoor Go.Proofs.YtbofhoonlmikcaaGreatDoor.Sy

theorem one_part {w : World} {g : Nat} {vs : List Value} (h : w.rangeAt g 0 vs) : ∀ j, j < 1 → w.rangeAt g (0 + j * 13) vs := fun j hj => by
 obtain rfl : j = 0 := by omega
 exact h
def pX : Pt → Nat
 | none => 0
 | some (x, _) => x.val
def pY : Pt → Nat
 | none => 0
 | some (_, y) => y.val
def pI : Pt → Bool
 | none => true
 | some _ => false
theorem ptv_parts : ∀ P : Pt, ptv P = pv (pX P) (pY P) (pI P)
 | none => rfl
 | some (_, _) => rfl
theorem pX_lt : ∀ P : Pt, pX P < K4
 | none => by show 0 < _; decide
 | some (x, _) => lt4 x
theorem pY_lt : ∀ P : Pt, pY P < K4
 | none => by show 0 < _; decide
 | some (_, y) => lt4 y
theorem dec_parts : ∀ {P : Pt}, Ec.On P → dec (pX P) (pY P) (pI P) = P
 | none, _ => dec_zero
 | some (x, y), h => dec_fin x y h
set_option maxHeartbeats 4000000 in
set_option maxRecDepth 100000 in
theorem mul_any (w : World) (k x y : Nat) (i : Bool) (hk : k < K4) (hx : x < K4) (hy : y < K4) : Calls Tryz.prog 70 #[fv k, pv x y i] w (Gets w (ptv (Ec.nm finv (k % Sc.pM) (dec x y i)))) := by
 obtain ⟨R, hR⟩ : ∃ R, R = Ec.sumL finv (fun t => Ec.nm finv ((fun _ : Nat => (⟨k, x, y, i⟩ : Trm)) t).kn ((fun _ : Nat => (⟨k, x, y, i⟩ : Trm)) t).pt) (List.range 1) := ⟨_, rfl⟩
 have e : Ec.nm finv (k % Sc.pM) (dec x y i) = R := by rw [hR]; exact (Ec.zero_add (inv := finv) _).symm
 rw [e, ptv_parts]
 refine Sy.enter (args := [fv k, pv x y i]) Tryz.func70 rfl kL ?_
 refine sC ?_
 refine sM 24 (fcs k) (fun g0 => ?_)
 refine sM 52 (pcs x y i) (fun g1 => ?_)
 refine sM 52 (pcs 0 0 false) (fun g2 => ?_)
 refine sA ?_
 refine sS (fv k) (qL 0 g0 0 4 24 24 (fcs k) rfl Tryz.underlying24) <| sS (pv x y i) (qL 1 g1 0 9 52 52 (pcs x y i) rfl Tryz.underlying52) <| sP (trv k x y i) ?_
 refine Sy.make kR 105 (trcs k x y i) (fun g => .slice (some ⟨g, 0, none⟩) 1 1) kF (fun g3 => ?_)
 refine sS (pv (pX R) (pY R) (pI R)) (qG 65 #[.slice (some ⟨g3, 0, none⟩) 1 1] (fun w hw => by rw [← ptv_parts, hR]; exact multi_any w _ g3 0 1 1 (fun _ => ⟨k, x, y, i⟩) (Nat.le_refl _) (by decide) (fun _ => ⟨hk, hx, hy⟩) (fun _ => ⟨rfl, (hw.get (i := 3) rfl).lt, one_part (blk_range (hw.get (i := 3) rfl) kR)⟩))) <| sW 2 g2 52 (pcs 0 0 false) (pcs (pX R) (pY R) (pI R)) (wS 0 52 (pcs (pX R) (pY R) (pI R)) rfl) ?_
 refine sG <| Sy.ret ?_
 exact rC (v := pv (pX R) (pY R) (pI R)) 52 g2 2 (pcs (pX R) (pY R) (pI R)) rfl Tryz.underlying52
end Go.Proofs.YtbofhoonlmikcaaGreatDoor.Cu

end
section
namespace Go.Proofs.YtbofhoonlmikcaaGreatDoor.Cu
open Go.RowKit Go.Proofs.YtbofhoonlmikcaaGreatDoor Go.Proofs.YtbofhoonlmikcaaGreatDoor.Sy

def encS : Pt → List UInt8
 | none => List.replicate 33 0
 | some (x, y) => (if y.val % 2 = 1 then 3 else 2) :: bytesS x.val
theorem encS_length : ∀ P, (encS P).length = 33
 | none => rfl
 | some (x, y) => by simp [encS, bytesS_length]
theorem liftP_on (l : List UInt8) : Ec.On (liftP l) := by
 cases h : liftB l
 ·rw [lift_no h]; trivial
 ·obtain ⟨u, y, _, _, e, ho, _⟩ := lift_yes h
  rw [e]; exact ho
theorem val_neg' (y : Fp) (h : y ≠ 0) : (-y).val % 2 ≠ y.val % 2 := by
 have hs : y + -y = 0 := by grobner
 have h1 := Ec.val_of_sum hs h
 have h2 : pM % 2 = 1 := by decide +kernel
 omega
theorem lift_x (x y : Fp) (h : y * y = x * x * x + 7) : liftP (bytesS x.val) = if y.val % 2 = 1 then some (x, -y) else some (x, y) := by
 have hv : valB (bytesS x.val) = x.val := valB_bytesS _ (lt4 x)
 have hc : cubeN x.val = mulP y.val y.val := by
  rw [cubeN_val, ← h]
  rfl
 obtain ⟨s, hs, hsn⟩ := sqrt_sq y.val
 have hb : liftB (bytesS x.val) = true := by
  unfold liftB
  rw [hv, hc, hs]
  simp [x.isLt]
 obtain ⟨u, r, e1, e2, e3, e4, e5⟩ := lift_yes hb
 rw [hv] at e1
 have eu : u = x := Fin.ext e1
 subst eu
 rw [hv, hc, hs] at e2
 have e2 : r.val = s := e2
 rw [e3]
 have hy := no_two u y h
 rcases hsn with q | q
 ·have er : r = y := Fin.ext (by rw [e2, q, Nat.mod_eq_of_lt y.isLt])
  subst er
  rw [if_neg (by omega)]
 ·have er : r = -y := Fin.ext (by rw [e2, q, val_neg])
  subst er
  have := val_neg' y hy
  rw [if_pos (by omega)]
theorem list32 (m : List UInt8) (h : m.length = 32) : ∃ a0 a1 a2 a3 a4 a5 a6 a7 a8 a9 a10 a11 a12 a13 a14 a15 a16 a17 a18 a19 a20 a21 a22 a23 a24 a25 a26 a27 a28 a29 a30 a31 : UInt8, m = [a0, a1, a2, a3, a4, a5, a6, a7, a8, a9, a10, a11, a12, a13, a14, a15, a16, a17, a18, a19, a20, a21, a22, a23, a24, a25, a26, a27, a28, a29, a30, a31] := by
 match m, h with
 | [a0, a1, a2, a3, a4, a5, a6, a7, a8, a9, a10, a11, a12, a13, a14, a15, a16, a17, a18, a19, a20, a21, a22, a23, a24, a25, a26, a27, a28, a29, a30, a31], _ => exact ⟨a0, a1, a2, a3, a4, a5, a6, a7, a8, a9, a10, a11, a12, a13, a14, a15, a16, a17, a18, a19, a20, a21, a22, a23, a24, a25, a26, a27, a28, a29, a30, a31,  rfl⟩
theorem eql_u8 (w : World) (F : Slots) (o : Oper) (x y : Operand) (a : UInt8) (k : Nat) (hk : k < 256) {yt : TypeId} (ho : o.op = .binOp .eql 5 x y yt) (hx : evF F x = bv a) (hy : evF F y = .int .u8 k) : (execOp (evF F) o).run Tryz.prog w = .ok (.value (.bool (decide (a = UInt8.ofNat k)))) w := by
 have h1 := Tryz.underlying5
 have e : ((a.toNat : Int) == (k : Int)) = decide (a = UInt8.ofNat k) := by
  rw [Bool.eq_iff_iff]
  simp
  constructor
  ·intro h
   have : a.toNat = k := by omega
   exact UInt8.toNat_inj.1 (by rw [this, UInt8.toNat_ofNat']; omega)
  ·rintro rfl
   rw [UInt8.toNat_ofNat']
   omega
 unfold execOp
 simp only [ho, hx, hy, bv]
 simp [eqGuard, binOp, Op.intCmp, e]
end Go.Proofs.YtbofhoonlmikcaaGreatDoor.Cu

end
section
namespace Go.Proofs.YtbofhoonlmikcaaGreatDoor.Cu
open Go.RowKit Go.Proofs.YtbofhoonlmikcaaGreatDoor Go.Proofs.YtbofhoonlmikcaaGreatDoor.Sy
set_option maxRecDepth 100000
set_option maxHeartbeats 4000000

theorem enc_none (w : World) (x y : Nat) (i : Bool) (hx : x < K4) (hy : y < K4) (h : dec x y i = none) : Calls Tryz.prog 80 #[pv x y i] w (Gets w (.agg ((encS none).map bv).toArray)) := by
 refine Sy.enter (args := [pv x y i]) Tryz.func80 rfl kL ?_
 refine sC ?_
 refine sM 52 (pcs x y i) (fun g0 => ?_)
 refine Sy.make kR 118 (Zl 33).toArray ptr kF (fun g1 => ?_)
 refine sA ?_
 refine Sy.make kR 118 (Zl 33).toArray ptr kF (fun g2 => ?_)
 refine sA ?_
 refine sS (pv x y i) (qL 0 g0 0 9 52 52 (pcs x y i) rfl Tryz.underlying52) <| sS (pv 0 0 true) (qF 127 #[pv x y i] (fun w => by have hrr := right_c w x y i lK lK; rw [h] at hrr; exact hrr)) <| sW 0 g0 52 (pcs x y i) (pcs 0 0 true) (wS 0 52 (pcs 0 0 true) rfl) ?_
 refine sG <| Sy.seq <| Sy.seq ?_
 refine Sy.regionD (fun j => false) kR ?_
 refine sD 0 rfl (pv 0 0 true) (qL 0 g0 0 9 52 52 (pcs 0 0 true) rfl Tryz.underlying52) <| sD 1 rfl (pv 0 0 true) (qF 105 #[] (zero_c)) <| sD 2 rfl (.bool true) (Quiet.pure (fun w => eql_pt w _ _ _ _ 0 0 true 0 0 true rfl rfl rfl (by decide) (by decide) (by decide) (by decide))) ?_
 refine sI ?_
 refine sT <| sC ?_
 refine sS (.agg ((Zl 33) : List Value).toArray) (Quiet.load 2 g2 0 33 118 118 (Zl 33).toArray _ _ rfl kR kR Tryz.underlying118 rfl kR _ kR kL) ?_
 refine Sy.write kR 1 g1 118 (Zl 33).toArray (Zl 33).toArray kR (Writes.store 0 118 (Zl 33).toArray _ _ rfl kR kR kR kL kR kR) ?_
 refine sG <| Sy.ret <| Sy.then_ret ?_
 rw [show (.agg ((encS none).map bv).toArray : Value) = .agg ((Zl 33) : List Value).toArray from by kernel_rfl]
 exact Sy.ret1 (v := .agg ((Zl 33) : List Value).toArray) rfl (.inl (Res.cell (ty' := 118) g1 1 (Zl 33).toArray _ kR kR Tryz.underlying118 rfl kR kR))
theorem enc_some (w : World) (x y : Nat) (i : Bool) (hx : x < K4) (hy : y < K4) (u v : Fp) (h : dec x y i = some (u, v)) : Calls Tryz.prog 80 #[pv x y i] w (Gets w (.agg ((encS (some (u, v))).map bv).toArray)) := by
 obtain ⟨a0, a1, a2, a3, a4, a5, a6, a7, a8, a9, a10, a11, a12, a13, a14, a15, a16, a17, a18, a19, a20, a21, a22, a23, a24, a25, a26, a27, a28, a29, a30, a31, hm⟩ := list32 (bytesS u.val) (bytesS_length _)
 have cB : ∀ w, Calls Tryz.prog 129 #[fv u.val] w (Gets w (.agg ((bv a0 :: bv a1 :: [bv a2, bv a3, bv a4, bv a5, bv a6, bv a7, bv a8, bv a9, bv a10, bv a11, bv a12, bv a13, bv a14, bv a15, bv a16, bv a17, bv a18, bv a19, bv a20, bv a21, bv a22, bv a23, bv a24, bv a25, bv a26, bv a27, bv a28, bv a29, bv a30, bv a31]) : List Value).toArray)) := fun w => by
  have hh := bytes_any w u.val (lt4 u)
  rw [Nat.mod_eq_of_lt u.isLt, hm] at hh
  exact hh
 refine Sy.enter (args := [pv x y i]) Tryz.func80 rfl kL ?_
 refine sC ?_
 refine sM 52 (pcs x y i) (fun g0 => ?_)
 refine Sy.make kR 118 (Zl 33).toArray ptr kF (fun g1 => ?_)
 refine sA ?_
 refine Sy.make kR 118 (Zl 33).toArray ptr kF (fun g2 => ?_)
 refine sA ?_
 refine sS (pv x y i) (qL 0 g0 0 9 52 52 (pcs x y i) rfl Tryz.underlying52) <| sS (pv u.val v.val false) (qF 127 #[pv x y i] (fun w => by have hrr := right_c w x y i lK lK; rw [h] at hrr; exact hrr)) <| sW 0 g0 52 (pcs x y i) (pcs u.val v.val false) (wS 0 52 (pcs u.val v.val false) rfl) ?_
 refine sG <| Sy.seq <| Sy.seq ?_
 refine Sy.regionD (fun j => false) kR ?_
 refine sD 0 rfl (pv u.val v.val false) (qL 0 g0 0 9 52 52 (pcs u.val v.val false) rfl Tryz.underlying52) <| sD 1 rfl (pv 0 0 true) (qF 105 #[] (zero_c)) <| sD 2 rfl (.bool false) (Quiet.pure (fun w => eql_pt_ne w _ _ _ _ _ _ _ _ _ _ rfl rfl rfl lK lK lK lK (by decide))) ?_
 refine sI ?_
 refine sU <| Sy.skip <| sB ?_
 refine sP (.pointer (some ⟨g2, 0, none⟩)) ?_
 refine Sy.write kR 2 g2 118 (Zl 33).toArray (.int .u8 2 :: Zl 32).toArray kR (wO 0 5 (.int .u8 2) rfl) ?_
 refine sG <| Sy.seq <| sC ?_
 refine sP (.pointer (some ⟨g0, 4, none⟩)) <| sS (fv v.val) (qL 0 g0 4 4 52 50 (pcs u.val v.val false) rfl Tryz.underlying50) ?_
 obtain ⟨b1, hb1⟩ : ∃ z : Bool, z = decide (v.val % pM % 2 = 1) := ⟨_, rfl⟩
 refine sS (.bool b1) (qF 128 #[fv v.val] (fun w => by rw [hb1]; exact odd_any w v.val lK)) ?_
 refine sG ?_
 cases b1
 ·refine sU <| Sy.skip <| sB ?_
  refine sP (.pointer (some ⟨g0, 0, none⟩)) <| sS (fv u.val) (qL 0 g0 0 4 52 50 (pcs u.val v.val false) rfl Tryz.underlying50) <| sS (.agg ((bv a0 :: bv a1 :: [bv a2, bv a3, bv a4, bv a5, bv a6, bv a7, bv a8, bv a9, bv a10, bv a11, bv a12, bv a13, bv a14, bv a15, bv a16, bv a17, bv a18, bv a19, bv a20, bv a21, bv a22, bv a23, bv a24, bv a25, bv a26, bv a27, bv a28, bv a29, bv a30, bv a31]) : List Value).toArray) (qF 129 #[fv u.val] (cB)) ?_
  refine Sy.make kR 30 (Zl 32).toArray ptr kF (fun g3 => ?_)
  refine Sy.write kR 3 g3 30 (Zl 32).toArray (bv a0 :: bv a1 :: [bv a2, bv a3, bv a4, bv a5, bv a6, bv a7, bv a8, bv a9, bv a10, bv a11, bv a12, bv a13, bv a14, bv a15, bv a16, bv a17, bv a18, bv a19, bv a20, bv a21, bv a22, bv a23, bv a24, bv a25, bv a26, bv a27, bv a28, bv a29, bv a30, bv a31]).toArray kR (Writes.store 0 30 (bv a0 :: bv a1 :: [bv a2, bv a3, bv a4, bv a5, bv a6, bv a7, bv a8, bv a9, bv a10, bv a11, bv a12, bv a13, bv a14, bv a15, bv a16, bv a17, bv a18, bv a19, bv a20, bv a21, bv a22, bv a23, bv a24, bv a25, bv a26, bv a27, bv a28, bv a29, bv a30, bv a31]).toArray _ _ rfl kR kR kR kL kR kR) ?_
  refine sH (fun j => j == 2) ?_
  refine sZ 0 rfl (.slice (some ⟨g2, 1, none⟩) 32 32) <| sZ 1 rfl (.slice (some ⟨g3, 0, none⟩) 32 32) ?_
  refine Sy.writeVD 2 rfl kR (by rfl) kR 2 g2 118 (.int .u8 2 :: Zl 32).toArray (.int .u8 2 :: bv a0 :: bv a1 :: [bv a2, bv a3, bv a4, bv a5, bv a6, bv a7, bv a8, bv a9, bv a10, bv a11, bv a12, bv a13, bv a14, bv a15, bv a16, bv a17, bv a18, bv a19, bv a20, bv a21, bv a22, bv a23, bv a24, bv a25, bv a26, bv a27, bv a28, bv a29, bv a30, bv a31]).toArray (.int .i64 32) kR (WritesV.copy _ _ 25 25 _ rfl Tryz.underlying25 kR 2 g2 1 32 32 118 (.int .u8 2 :: Zl 32).toArray (.int .u8 2 :: bv a0 :: bv a1 :: [bv a2, bv a3, bv a4, bv a5, bv a6, bv a7, bv a8, bv a9, bv a10, bv a11, bv a12, bv a13, bv a14, bv a15, bv a16, bv a17, bv a18, bv a19, bv a20, bv a21, bv a22, bv a23, bv a24, bv a25, bv a26, bv a27, bv a28, bv a29, bv a30, bv a31]).toArray kR kR 3 g3 0 32 32 30 (bv a0 :: bv a1 :: [bv a2, bv a3, bv a4, bv a5, bv a6, bv a7, bv a8, bv a9, bv a10, bv a11, bv a12, bv a13, bv a14, bv a15, bv a16, bv a17, bv a18, bv a19, bv a20, bv a21, bv a22, bv a23, bv a24, bv a25, bv a26, bv a27, bv a28, bv a29, bv a30, bv a31]).toArray kR kR (bv a0 :: bv a1 :: [bv a2, bv a3, bv a4, bv a5, bv a6, bv a7, bv a8, bv a9, bv a10, bv a11, bv a12, bv a13, bv a14, bv a15, bv a16, bv a17, bv a18, bv a19, bv a20, bv a21, bv a22, bv a23, bv a24, bv a25, bv a26, bv a27, bv a28, bv a29, bv a30, bv a31]) kR kR (all_one _ kR) kL kR) ?_
  refine sE ?_
  refine sB ?_
  refine sS (.agg ((.int .u8 2 :: bv a0 :: bv a1 :: [bv a2, bv a3, bv a4, bv a5, bv a6, bv a7, bv a8, bv a9, bv a10, bv a11, bv a12, bv a13, bv a14, bv a15, bv a16, bv a17, bv a18, bv a19, bv a20, bv a21, bv a22, bv a23, bv a24, bv a25, bv a26, bv a27, bv a28, bv a29, bv a30, bv a31]) : List Value).toArray) (Quiet.load 2 g2 0 33 118 118 (.int .u8 2 :: bv a0 :: bv a1 :: [bv a2, bv a3, bv a4, bv a5, bv a6, bv a7, bv a8, bv a9, bv a10, bv a11, bv a12, bv a13, bv a14, bv a15, bv a16, bv a17, bv a18, bv a19, bv a20, bv a21, bv a22, bv a23, bv a24, bv a25, bv a26, bv a27, bv a28, bv a29, bv a30, bv a31]).toArray _ _ rfl kR kR Tryz.underlying118 rfl kR _ kR kL) ?_
  refine Sy.write kR 1 g1 118 (Zl 33).toArray (.int .u8 2 :: bv a0 :: bv a1 :: [bv a2, bv a3, bv a4, bv a5, bv a6, bv a7, bv a8, bv a9, bv a10, bv a11, bv a12, bv a13, bv a14, bv a15, bv a16, bv a17, bv a18, bv a19, bv a20, bv a21, bv a22, bv a23, bv a24, bv a25, bv a26, bv a27, bv a28, bv a29, bv a30, bv a31]).toArray kR (Writes.store 0 118 (.int .u8 2 :: bv a0 :: bv a1 :: [bv a2, bv a3, bv a4, bv a5, bv a6, bv a7, bv a8, bv a9, bv a10, bv a11, bv a12, bv a13, bv a14, bv a15, bv a16, bv a17, bv a18, bv a19, bv a20, bv a21, bv a22, bv a23, bv a24, bv a25, bv a26, bv a27, bv a28, bv a29, bv a30, bv a31]).toArray _ _ rfl kR kR kR kL kR kR) ?_
  refine sG <| Sy.ret ?_
  rw [show (.agg ((encS (some (u, v))).map bv).toArray : Value) = .agg ((.int .u8 2 :: bv a0 :: bv a1 :: [bv a2, bv a3, bv a4, bv a5, bv a6, bv a7, bv a8, bv a9, bv a10, bv a11, bv a12, bv a13, bv a14, bv a15, bv a16, bv a17, bv a18, bv a19, bv a20, bv a21, bv a22, bv a23, bv a24, bv a25, bv a26, bv a27, bv a28, bv a29, bv a30, bv a31]) : List Value).toArray from by
   have e : encS (some (u, v)) = (if v.val % 2 = 1 then 3 else 2) :: bytesS u.val := rfl
   rw [e, hm, if_neg (by have q := hb1.symm; rw [Nat.mod_eq_of_lt v.isLt] at q; exact of_decide_eq_false q)]
   rfl]
  exact Sy.ret1 (v := .agg ((.int .u8 2 :: bv a0 :: bv a1 :: [bv a2, bv a3, bv a4, bv a5, bv a6, bv a7, bv a8, bv a9, bv a10, bv a11, bv a12, bv a13, bv a14, bv a15, bv a16, bv a17, bv a18, bv a19, bv a20, bv a21, bv a22, bv a23, bv a24, bv a25, bv a26, bv a27, bv a28, bv a29, bv a30, bv a31]) : List Value).toArray) rfl (.inl (Res.cell (ty' := 118) g1 1 (.int .u8 2 :: bv a0 :: bv a1 :: [bv a2, bv a3, bv a4, bv a5, bv a6, bv a7, bv a8, bv a9, bv a10, bv a11, bv a12, bv a13, bv a14, bv a15, bv a16, bv a17, bv a18, bv a19, bv a20, bv a21, bv a22, bv a23, bv a24, bv a25, bv a26, bv a27, bv a28, bv a29, bv a30, bv a31]).toArray _ kR kR Tryz.underlying118 rfl kR kR))
 ·refine sT <| Sy.region ?_
  refine sP (.pointer (some ⟨g2, 0, none⟩)) ?_
  refine Sy.write kR 2 g2 118 (.int .u8 2 :: Zl 32).toArray (.int .u8 3 :: Zl 32).toArray kR (wO 0 5 (.int .u8 3) rfl) ?_
  refine sA ?_
  refine sP (.pointer (some ⟨g0, 0, none⟩)) <| sS (fv u.val) (qL 0 g0 0 4 52 50 (pcs u.val v.val false) rfl Tryz.underlying50) <| sS (.agg ((bv a0 :: bv a1 :: [bv a2, bv a3, bv a4, bv a5, bv a6, bv a7, bv a8, bv a9, bv a10, bv a11, bv a12, bv a13, bv a14, bv a15, bv a16, bv a17, bv a18, bv a19, bv a20, bv a21, bv a22, bv a23, bv a24, bv a25, bv a26, bv a27, bv a28, bv a29, bv a30, bv a31]) : List Value).toArray) (qF 129 #[fv u.val] (cB)) ?_
  refine Sy.make kR 30 (Zl 32).toArray ptr kF (fun g4 => ?_)
  refine Sy.write kR 3 g4 30 (Zl 32).toArray (bv a0 :: bv a1 :: [bv a2, bv a3, bv a4, bv a5, bv a6, bv a7, bv a8, bv a9, bv a10, bv a11, bv a12, bv a13, bv a14, bv a15, bv a16, bv a17, bv a18, bv a19, bv a20, bv a21, bv a22, bv a23, bv a24, bv a25, bv a26, bv a27, bv a28, bv a29, bv a30, bv a31]).toArray kR (Writes.store 0 30 (bv a0 :: bv a1 :: [bv a2, bv a3, bv a4, bv a5, bv a6, bv a7, bv a8, bv a9, bv a10, bv a11, bv a12, bv a13, bv a14, bv a15, bv a16, bv a17, bv a18, bv a19, bv a20, bv a21, bv a22, bv a23, bv a24, bv a25, bv a26, bv a27, bv a28, bv a29, bv a30, bv a31]).toArray _ _ rfl kR kR kR kL kR kR) ?_
  refine sH (fun j => j == 2) ?_
  refine sZ 0 rfl (.slice (some ⟨g2, 1, none⟩) 32 32) <| sZ 1 rfl (.slice (some ⟨g4, 0, none⟩) 32 32) ?_
  refine Sy.writeVD 2 rfl kR (by rfl) kR 2 g2 118 (.int .u8 3 :: Zl 32).toArray (.int .u8 3 :: bv a0 :: bv a1 :: [bv a2, bv a3, bv a4, bv a5, bv a6, bv a7, bv a8, bv a9, bv a10, bv a11, bv a12, bv a13, bv a14, bv a15, bv a16, bv a17, bv a18, bv a19, bv a20, bv a21, bv a22, bv a23, bv a24, bv a25, bv a26, bv a27, bv a28, bv a29, bv a30, bv a31]).toArray (.int .i64 32) kR (WritesV.copy _ _ 25 25 _ rfl Tryz.underlying25 kR 2 g2 1 32 32 118 (.int .u8 3 :: Zl 32).toArray (.int .u8 3 :: bv a0 :: bv a1 :: [bv a2, bv a3, bv a4, bv a5, bv a6, bv a7, bv a8, bv a9, bv a10, bv a11, bv a12, bv a13, bv a14, bv a15, bv a16, bv a17, bv a18, bv a19, bv a20, bv a21, bv a22, bv a23, bv a24, bv a25, bv a26, bv a27, bv a28, bv a29, bv a30, bv a31]).toArray kR kR 3 g4 0 32 32 30 (bv a0 :: bv a1 :: [bv a2, bv a3, bv a4, bv a5, bv a6, bv a7, bv a8, bv a9, bv a10, bv a11, bv a12, bv a13, bv a14, bv a15, bv a16, bv a17, bv a18, bv a19, bv a20, bv a21, bv a22, bv a23, bv a24, bv a25, bv a26, bv a27, bv a28, bv a29, bv a30, bv a31]).toArray kR kR (bv a0 :: bv a1 :: [bv a2, bv a3, bv a4, bv a5, bv a6, bv a7, bv a8, bv a9, bv a10, bv a11, bv a12, bv a13, bv a14, bv a15, bv a16, bv a17, bv a18, bv a19, bv a20, bv a21, bv a22, bv a23, bv a24, bv a25, bv a26, bv a27, bv a28, bv a29, bv a30, bv a31]) kR kR (all_one _ kR) kL kR) ?_
  refine sE ?_
  refine sB ?_
  refine sS (.agg ((.int .u8 3 :: bv a0 :: bv a1 :: [bv a2, bv a3, bv a4, bv a5, bv a6, bv a7, bv a8, bv a9, bv a10, bv a11, bv a12, bv a13, bv a14, bv a15, bv a16, bv a17, bv a18, bv a19, bv a20, bv a21, bv a22, bv a23, bv a24, bv a25, bv a26, bv a27, bv a28, bv a29, bv a30, bv a31]) : List Value).toArray) (Quiet.load 2 g2 0 33 118 118 (.int .u8 3 :: bv a0 :: bv a1 :: [bv a2, bv a3, bv a4, bv a5, bv a6, bv a7, bv a8, bv a9, bv a10, bv a11, bv a12, bv a13, bv a14, bv a15, bv a16, bv a17, bv a18, bv a19, bv a20, bv a21, bv a22, bv a23, bv a24, bv a25, bv a26, bv a27, bv a28, bv a29, bv a30, bv a31]).toArray _ _ rfl kR kR Tryz.underlying118 rfl kR _ kR kL) ?_
  refine Sy.write kR 1 g1 118 (Zl 33).toArray (.int .u8 3 :: bv a0 :: bv a1 :: [bv a2, bv a3, bv a4, bv a5, bv a6, bv a7, bv a8, bv a9, bv a10, bv a11, bv a12, bv a13, bv a14, bv a15, bv a16, bv a17, bv a18, bv a19, bv a20, bv a21, bv a22, bv a23, bv a24, bv a25, bv a26, bv a27, bv a28, bv a29, bv a30, bv a31]).toArray kR (Writes.store 0 118 (.int .u8 3 :: bv a0 :: bv a1 :: [bv a2, bv a3, bv a4, bv a5, bv a6, bv a7, bv a8, bv a9, bv a10, bv a11, bv a12, bv a13, bv a14, bv a15, bv a16, bv a17, bv a18, bv a19, bv a20, bv a21, bv a22, bv a23, bv a24, bv a25, bv a26, bv a27, bv a28, bv a29, bv a30, bv a31]).toArray _ _ rfl kR kR kR kL kR kR) ?_
  refine sG <| Sy.ret ?_
  rw [show (.agg ((encS (some (u, v))).map bv).toArray : Value) = .agg ((.int .u8 3 :: bv a0 :: bv a1 :: [bv a2, bv a3, bv a4, bv a5, bv a6, bv a7, bv a8, bv a9, bv a10, bv a11, bv a12, bv a13, bv a14, bv a15, bv a16, bv a17, bv a18, bv a19, bv a20, bv a21, bv a22, bv a23, bv a24, bv a25, bv a26, bv a27, bv a28, bv a29, bv a30, bv a31]) : List Value).toArray from by
   have e : encS (some (u, v)) = (if v.val % 2 = 1 then 3 else 2) :: bytesS u.val := rfl
   rw [e, hm, if_pos (by have q := hb1.symm; rw [Nat.mod_eq_of_lt v.isLt] at q; exact of_decide_eq_true q)]
   rfl]
  exact Sy.ret1 (v := .agg ((.int .u8 3 :: bv a0 :: bv a1 :: [bv a2, bv a3, bv a4, bv a5, bv a6, bv a7, bv a8, bv a9, bv a10, bv a11, bv a12, bv a13, bv a14, bv a15, bv a16, bv a17, bv a18, bv a19, bv a20, bv a21, bv a22, bv a23, bv a24, bv a25, bv a26, bv a27, bv a28, bv a29, bv a30, bv a31]) : List Value).toArray) rfl (.inl (Res.cell (ty' := 118) g1 1 (.int .u8 3 :: bv a0 :: bv a1 :: [bv a2, bv a3, bv a4, bv a5, bv a6, bv a7, bv a8, bv a9, bv a10, bv a11, bv a12, bv a13, bv a14, bv a15, bv a16, bv a17, bv a18, bv a19, bv a20, bv a21, bv a22, bv a23, bv a24, bv a25, bv a26, bv a27, bv a28, bv a29, bv a30, bv a31]).toArray _ kR kR Tryz.underlying118 rfl kR kR))
theorem enc_any (w : World) (x y : Nat) (i : Bool) (hx : x < K4) (hy : y < K4) : Calls Tryz.prog 80 #[pv x y i] w (Gets w (.agg ((encS (dec x y i)).map bv).toArray)) := by
 rcases h : dec x y i with _ | ⟨u, v⟩
 ·exact enc_none w x y i hx hy h
 ·exact enc_some w x y i hx hy u v h
end Go.Proofs.YtbofhoonlmikcaaGreatDoor.Cu

end
section
namespace Go.Proofs.YtbofhoonlmikcaaGreatDoor.Cu
open Go.RowKit Go.Proofs.YtbofhoonlmikcaaGreatDoor Go.Proofs.YtbofhoonlmikcaaGreatDoor.Sy
set_option maxRecDepth 100000
set_option maxHeartbeats 4000000

end Go.Proofs.YtbofhoonlmikcaaGreatDoor.Cu

end
section
namespace Go.Proofs.YtbofhoonlmikcaaGreatDoor.Sc
open Go.RowKit Go.Lib

theorem gap_any (w : World) : Calls Tryz.prog 136 #[] w fun e w' => e = .returned (fv 432420386565659656852420866394968145599) ∧ Below w.heap.size w w' := by
 go_enter Tryz.func136, Tryz.ntmps136
 go_wp2
 exact bodyPost_ret (results_cell_row rfl _ _ w.heap.size _ _ (0, 0) _ rfl (heap_alloc_new w _) Tryz.underlying24 rfl kR) rfl ⟨rfl, (Below.refl _ _).alloc (Nat.le_refl _) _⟩
set_option maxHeartbeats 8000000 in
set_option maxRecDepth 100000 in
theorem plus_any (w : World) (x y : Nat) (hx : x < 115792089237316195423570985008687907853269984665640564039457584007913129639936) (hy : y < 115792089237316195423570985008687907853269984665640564039457584007913129639936) : Calls Tryz.prog 134 #[fv x, fv y] w fun e w' => (∃ s k : Nat, s < 115792089237316195423570985008687907853269984665640564039457584007913129639936 ∧ k ≤ 1 ∧ s + 115792089237316195423570985008687907853269984665640564039457584007913129639936 * k = x + y ∧ e = .returned (.tuple #[fv s, .int .u64 (k : Int)])) ∧ Below w.heap.size w w' := by
 obtain ⟨x0, x1, x2, x3, a0, a1, a2, a3, ex, fx⟩ := words_of x hx
 obtain ⟨y0, y1, y2, y3, b0, b1, b2, b3, ey, fy⟩ := words_of y hy
 rw [fx, fy]
 obtain ⟨s0, c0, d0, k0, e0, r0⟩ := add0_ex x0 y0 a0 b0
 obtain ⟨s1, c1, d1, k1, e1, r1⟩ := addc_ex x1 y1 c0 a1 b1 k0
 obtain ⟨s2, c2, d2, k2, e2, r2⟩ := addc_ex x2 y2 c1 a2 b2 k1
 obtain ⟨s3, c3, d3, k3, e3, r3⟩ := addc_ex x3 y3 c2 a3 b3 k2
 have fin : s0 + 18446744073709551616 * s1 + 340282366920938463463374607431768211456 * s2 + 6277101735386680763835789423207666416102355444464034512896 * s3 + 115792089237316195423570985008687907853269984665640564039457584007913129639936 * c3 = x + y := by omega
 have hs := Lib.hid (fv_mk s0 s1 s2 s3 d0 d1 d2 d3)
 have hlt := Lib.hid (fv_lt s0 s1 s2 s3 d0 d1 d2 d3)
 have HF := Lib.hid fin
 have HK := Lib.hid k3
 clear ex ey fx fy e0 e1 e2 e3 a0 a1 a2 a3 b0 b1 b2 b3 d0 d1 d2 d3 k0 k1 k2 k3 fin hx hy
 go_enter Tryz.func134, Tryz.ntmps134
 go_wp2_with fail
 go_loopw [5, 7] (fun bo i wr => Below w.heap.size w wr ∧ Blk wr w.heap.size 24 #[.int .u64 (x0 : Int), .int .u64 (x1 : Int), .int .u64 (x2 : Int), .int .u64 (x3 : Int)] ∧ Blk wr (w.heap.size + 1) 24 #[.int .u64 (y0 : Int), .int .u64 (y1 : Int), .int .u64 (y2 : Int), .int .u64 (y3 : Int)] ∧ Hid ((i = .int .i64 0 ∧ bo = .int .u64 0 ∧ Blk wr (w.heap.size + 2) 24 #[.int .u64 0, .int .u64 0, .int .u64 0, .int .u64 0]) ∨ (i = .int .i64 1 ∧ bo = .int .u64 (c0 : Int) ∧ Blk wr (w.heap.size + 2) 24 #[.int .u64 (s0 : Int), .int .u64 0, .int .u64 0, .int .u64 0]) ∨ (i = .int .i64 2 ∧ bo = .int .u64 (c1 : Int) ∧ Blk wr (w.heap.size + 2) 24 #[.int .u64 (s0 : Int), .int .u64 (s1 : Int), .int .u64 0, .int .u64 0]) ∨ (i = .int .i64 3 ∧ bo = .int .u64 (c2 : Int) ∧ Blk wr (w.heap.size + 2) 24 #[.int .u64 (s0 : Int), .int .u64 (s1 : Int), .int .u64 (s2 : Int), .int .u64 0]) ∨ (i = .int .i64 4 ∧ bo = .int .u64 (c3 : Int) ∧ Blk wr (w.heap.size + 2) 24 #[.int .u64 (s0 : Int), .int .u64 (s1 : Int), .int .u64 (s2 : Int), .int .u64 (s3 : Int)]))) (fun _ i _ => 4 - (intOf i).toNat)
 case atStart => exact ⟨below_alloc3 w _ _ _, ((Blk.new w _ _).alloc _).alloc _, (blk_new2 w _ _ _).alloc _, Lib.hid (.inl ⟨rfl, rfl, blk_new3 w _ _ _ _⟩)⟩
 case round =>
  obtain ⟨hb, BX, BY, HI⟩ := hrel
  have lX := BX.lt
  have lY := BY.lt
  rcases HI.out with ⟨rfl, rfl, BW⟩ | ⟨rfl, rfl, BW⟩ | ⟨rfl, rfl, BW⟩ | ⟨rfl, rfl, BW⟩ | ⟨rfl, rfl, BW⟩
  ·clear HI
   have px : wr.cell? ⟨w.heap.size, 0, none⟩ = some (.int .u64 (x0 : Int)) := BX.cell 0
   have py : wr.cell? ⟨w.heap.size + 1, 0, none⟩ = some (.int .u64 (y0 : Int)) := BY.cell 0
   go_wp2
   refine wp_region_G (fun j => j == 13) kR ?_
   try simp only [Act.put]
   refine tk 0 rfl ?_
   try simp only [Act.put, aA, aZ, aS]
   refine tk 1 rfl ?_
   try simp only [Act.put, aA, aZ, aS]
   refine tk 2 rfl ?_
   try simp only [Act.put, aA, aZ, aS]
   refine tkw 3 rfl (YieldsG.pure (v := .int .u64 (x0 : Int)) (by rfl) (fun w9 h9 => by have hz := (Below.cell (p := ⟨w.heap.size, 0, none⟩) h9 lX).trans px; go_simp; first | done | simp [hz])) ?_
   try simp only [Act.put, aA, aZ, aS]
   refine tk 4 rfl ?_
   try simp only [Act.put, aA, aZ, aS]
   refine tk 5 rfl ?_
   try simp only [Act.put, aA, aZ, aS]
   refine tkw 6 rfl (YieldsG.pure (v := .int .u64 (y0 : Int)) (by rfl) (fun w9 h9 => by have hz := (Below.cell (p := ⟨w.heap.size + 1, 0, none⟩) h9 lY).trans py; go_simp; first | done | simp [hz])) ?_
   try simp only [Act.put, aA, aZ, aS]
   refine tk 7 rfl ?_
   try simp only [Act.put, aA, aZ, aS]
   refine tkw 8 rfl (YieldsG.pure (v := .tuple #[.int .u64 (s0 : Int), .int .u64 (c0 : Int)]) (by rfl) (fun w9 h9 => by go_simp)) ?_
   try simp only [Act.put, aA, aZ, aS]
   refine tk 9 rfl ?_
   try simp only [Act.put, aA, aZ, aS]
   refine tk 10 rfl ?_
   try simp only [Act.put, aA, aZ, aS]
   refine wpAnyG_takeA 11 rfl kR (fun _ _ _ h => h) (fun _ => YieldsG.pure (by rfl) (fun w9 _ => by go_simp; try with_reducible rfl)) ?_
   try simp only [Act.put, aA, aZ, aS]
   refine tk 12 rfl ?_
   try simp only [Act.put, aA, aZ, aS]
   refine wpAnyG_sole 13 rfl kR (by rfl) (fun u hu K hK => ?_)
   have BX := Gr.blk hu BX
   have BY := Gr.blk hu BY
   have BW := Gr.blk hu BW
   have hb := Below.gr hb hu
   have pc : u.cell? ⟨w.heap.size + 2, 0, none⟩ = some (.int .u64 0) := BW.cell 0
   have pf := BW.frozen 0
   clear hu px py
   go_simp
   refine hK _ _ (fun e => by cases e) ?_
   clear hK K
   have hb := hb.setCell (p := ⟨w.heap.size + 2, 0, none⟩) (by show w.heap.size ≤ w.heap.size + 2; omega) (.int .u64 (s0 : Int))
   have BX := BX.far (p := ⟨w.heap.size + 2, 0, none⟩) (by show w.heap.size ≠ w.heap.size + 2; omega) (.int .u64 (s0 : Int))
   have BY := BY.far (p := ⟨w.heap.size + 2, 0, none⟩) (by show w.heap.size + 1 ≠ w.heap.size + 2; omega) (.int .u64 (s0 : Int))
   have BW := BW.set_ 0 (.int .u64 (s0 : Int))
   refine wpAnyG_takeA 14 rfl kR (fun _ _ _ h => h) (fun _ => YieldsG.pure (by rfl) (fun w9 _ => by go_simp; try with_reducible rfl)) ?_
   try simp only [Act.put, aA, aZ, aS]
   refine wpAnyG_done kR (fun v hv => ?_)
   have hb := Below.gr hb hv
   have BX := Gr.blk hv BX
   have BY := Gr.blk hv BY
   have BW := Gr.blk hv BW
   clear hv pc pf
   go_wp2
   refine ⟨⟨hb, BX, BY, Lib.hid (.inr (.inl (⟨rfl, rfl, BW⟩)))⟩, by decide⟩
  ·clear HI
   have px : wr.cell? ⟨w.heap.size, 1, none⟩ = some (.int .u64 (x1 : Int)) := BX.cell 1
   have py : wr.cell? ⟨w.heap.size + 1, 1, none⟩ = some (.int .u64 (y1 : Int)) := BY.cell 1
   go_wp2
   refine wp_region_G (fun j => j == 13) kR ?_
   try simp only [Act.put]
   refine tk 0 rfl ?_
   try simp only [Act.put, aA, aZ, aS]
   refine tk 1 rfl ?_
   try simp only [Act.put, aA, aZ, aS]
   refine tk 2 rfl ?_
   try simp only [Act.put, aA, aZ, aS]
   refine tkw 3 rfl (YieldsG.pure (v := .int .u64 (x1 : Int)) (by rfl) (fun w9 h9 => by have hz := (Below.cell (p := ⟨w.heap.size, 1, none⟩) h9 lX).trans px; go_simp; first | done | simp [hz])) ?_
   try simp only [Act.put, aA, aZ, aS]
   refine tk 4 rfl ?_
   try simp only [Act.put, aA, aZ, aS]
   refine tk 5 rfl ?_
   try simp only [Act.put, aA, aZ, aS]
   refine tkw 6 rfl (YieldsG.pure (v := .int .u64 (y1 : Int)) (by rfl) (fun w9 h9 => by have hz := (Below.cell (p := ⟨w.heap.size + 1, 1, none⟩) h9 lY).trans py; go_simp; first | done | simp [hz])) ?_
   try simp only [Act.put, aA, aZ, aS]
   refine tk 7 rfl ?_
   try simp only [Act.put, aA, aZ, aS]
   refine tkw 8 rfl (YieldsG.pure (v := .tuple #[.int .u64 (s1 : Int), .int .u64 (c1 : Int)]) (by rfl) (fun w9 h9 => by go_simp)) ?_
   try simp only [Act.put, aA, aZ, aS]
   refine tk 9 rfl ?_
   try simp only [Act.put, aA, aZ, aS]
   refine tk 10 rfl ?_
   try simp only [Act.put, aA, aZ, aS]
   refine wpAnyG_takeA 11 rfl kR (fun _ _ _ h => h) (fun _ => YieldsG.pure (by rfl) (fun w9 _ => by go_simp; try with_reducible rfl)) ?_
   try simp only [Act.put, aA, aZ, aS]
   refine tk 12 rfl ?_
   try simp only [Act.put, aA, aZ, aS]
   refine wpAnyG_sole 13 rfl kR (by rfl) (fun u hu K hK => ?_)
   have BX := Gr.blk hu BX
   have BY := Gr.blk hu BY
   have BW := Gr.blk hu BW
   have hb := Below.gr hb hu
   have pc : u.cell? ⟨w.heap.size + 2, 1, none⟩ = some (.int .u64 0) := BW.cell 1
   have pf := BW.frozen 1
   clear hu px py
   go_simp
   refine hK _ _ (fun e => by cases e) ?_
   clear hK K
   have hb := hb.setCell (p := ⟨w.heap.size + 2, 1, none⟩) (by show w.heap.size ≤ w.heap.size + 2; omega) (.int .u64 (s1 : Int))
   have BX := BX.far (p := ⟨w.heap.size + 2, 1, none⟩) (by show w.heap.size ≠ w.heap.size + 2; omega) (.int .u64 (s1 : Int))
   have BY := BY.far (p := ⟨w.heap.size + 2, 1, none⟩) (by show w.heap.size + 1 ≠ w.heap.size + 2; omega) (.int .u64 (s1 : Int))
   have BW := BW.set_ 1 (.int .u64 (s1 : Int))
   refine wpAnyG_takeA 14 rfl kR (fun _ _ _ h => h) (fun _ => YieldsG.pure (by rfl) (fun w9 _ => by go_simp; try with_reducible rfl)) ?_
   try simp only [Act.put, aA, aZ, aS]
   refine wpAnyG_done kR (fun v hv => ?_)
   have hb := Below.gr hb hv
   have BX := Gr.blk hv BX
   have BY := Gr.blk hv BY
   have BW := Gr.blk hv BW
   clear hv pc pf
   go_wp2
   refine ⟨⟨hb, BX, BY, Lib.hid (.inr (.inr (.inl (⟨rfl, rfl, BW⟩))))⟩, by decide⟩
  ·clear HI
   have px : wr.cell? ⟨w.heap.size, 2, none⟩ = some (.int .u64 (x2 : Int)) := BX.cell 2
   have py : wr.cell? ⟨w.heap.size + 1, 2, none⟩ = some (.int .u64 (y2 : Int)) := BY.cell 2
   go_wp2
   refine wp_region_G (fun j => j == 13) kR ?_
   try simp only [Act.put]
   refine tk 0 rfl ?_
   try simp only [Act.put, aA, aZ, aS]
   refine tk 1 rfl ?_
   try simp only [Act.put, aA, aZ, aS]
   refine tk 2 rfl ?_
   try simp only [Act.put, aA, aZ, aS]
   refine tkw 3 rfl (YieldsG.pure (v := .int .u64 (x2 : Int)) (by rfl) (fun w9 h9 => by have hz := (Below.cell (p := ⟨w.heap.size, 2, none⟩) h9 lX).trans px; go_simp; first | done | simp [hz])) ?_
   try simp only [Act.put, aA, aZ, aS]
   refine tk 4 rfl ?_
   try simp only [Act.put, aA, aZ, aS]
   refine tk 5 rfl ?_
   try simp only [Act.put, aA, aZ, aS]
   refine tkw 6 rfl (YieldsG.pure (v := .int .u64 (y2 : Int)) (by rfl) (fun w9 h9 => by have hz := (Below.cell (p := ⟨w.heap.size + 1, 2, none⟩) h9 lY).trans py; go_simp; first | done | simp [hz])) ?_
   try simp only [Act.put, aA, aZ, aS]
   refine tk 7 rfl ?_
   try simp only [Act.put, aA, aZ, aS]
   refine tkw 8 rfl (YieldsG.pure (v := .tuple #[.int .u64 (s2 : Int), .int .u64 (c2 : Int)]) (by rfl) (fun w9 h9 => by go_simp)) ?_
   try simp only [Act.put, aA, aZ, aS]
   refine tk 9 rfl ?_
   try simp only [Act.put, aA, aZ, aS]
   refine tk 10 rfl ?_
   try simp only [Act.put, aA, aZ, aS]
   refine wpAnyG_takeA 11 rfl kR (fun _ _ _ h => h) (fun _ => YieldsG.pure (by rfl) (fun w9 _ => by go_simp; try with_reducible rfl)) ?_
   try simp only [Act.put, aA, aZ, aS]
   refine tk 12 rfl ?_
   try simp only [Act.put, aA, aZ, aS]
   refine wpAnyG_sole 13 rfl kR (by rfl) (fun u hu K hK => ?_)
   have BX := Gr.blk hu BX
   have BY := Gr.blk hu BY
   have BW := Gr.blk hu BW
   have hb := Below.gr hb hu
   have pc : u.cell? ⟨w.heap.size + 2, 2, none⟩ = some (.int .u64 0) := BW.cell 2
   have pf := BW.frozen 2
   clear hu px py
   go_simp
   refine hK _ _ (fun e => by cases e) ?_
   clear hK K
   have hb := hb.setCell (p := ⟨w.heap.size + 2, 2, none⟩) (by show w.heap.size ≤ w.heap.size + 2; omega) (.int .u64 (s2 : Int))
   have BX := BX.far (p := ⟨w.heap.size + 2, 2, none⟩) (by show w.heap.size ≠ w.heap.size + 2; omega) (.int .u64 (s2 : Int))
   have BY := BY.far (p := ⟨w.heap.size + 2, 2, none⟩) (by show w.heap.size + 1 ≠ w.heap.size + 2; omega) (.int .u64 (s2 : Int))
   have BW := BW.set_ 2 (.int .u64 (s2 : Int))
   refine wpAnyG_takeA 14 rfl kR (fun _ _ _ h => h) (fun _ => YieldsG.pure (by rfl) (fun w9 _ => by go_simp; try with_reducible rfl)) ?_
   try simp only [Act.put, aA, aZ, aS]
   refine wpAnyG_done kR (fun v hv => ?_)
   have hb := Below.gr hb hv
   have BX := Gr.blk hv BX
   have BY := Gr.blk hv BY
   have BW := Gr.blk hv BW
   clear hv pc pf
   go_wp2
   refine ⟨⟨hb, BX, BY, Lib.hid (.inr (.inr (.inr (.inl (⟨rfl, rfl, BW⟩)))))⟩, by decide⟩
  ·clear HI
   have px : wr.cell? ⟨w.heap.size, 3, none⟩ = some (.int .u64 (x3 : Int)) := BX.cell 3
   have py : wr.cell? ⟨w.heap.size + 1, 3, none⟩ = some (.int .u64 (y3 : Int)) := BY.cell 3
   go_wp2
   refine wp_region_G (fun j => j == 13) kR ?_
   try simp only [Act.put]
   refine tk 0 rfl ?_
   try simp only [Act.put, aA, aZ, aS]
   refine tk 1 rfl ?_
   try simp only [Act.put, aA, aZ, aS]
   refine tk 2 rfl ?_
   try simp only [Act.put, aA, aZ, aS]
   refine tkw 3 rfl (YieldsG.pure (v := .int .u64 (x3 : Int)) (by rfl) (fun w9 h9 => by have hz := (Below.cell (p := ⟨w.heap.size, 3, none⟩) h9 lX).trans px; go_simp; first | done | simp [hz])) ?_
   try simp only [Act.put, aA, aZ, aS]
   refine tk 4 rfl ?_
   try simp only [Act.put, aA, aZ, aS]
   refine tk 5 rfl ?_
   try simp only [Act.put, aA, aZ, aS]
   refine tkw 6 rfl (YieldsG.pure (v := .int .u64 (y3 : Int)) (by rfl) (fun w9 h9 => by have hz := (Below.cell (p := ⟨w.heap.size + 1, 3, none⟩) h9 lY).trans py; go_simp; first | done | simp [hz])) ?_
   try simp only [Act.put, aA, aZ, aS]
   refine tk 7 rfl ?_
   try simp only [Act.put, aA, aZ, aS]
   refine tkw 8 rfl (YieldsG.pure (v := .tuple #[.int .u64 (s3 : Int), .int .u64 (c3 : Int)]) (by rfl) (fun w9 h9 => by go_simp)) ?_
   try simp only [Act.put, aA, aZ, aS]
   refine tk 9 rfl ?_
   try simp only [Act.put, aA, aZ, aS]
   refine tk 10 rfl ?_
   try simp only [Act.put, aA, aZ, aS]
   refine wpAnyG_takeA 11 rfl kR (fun _ _ _ h => h) (fun _ => YieldsG.pure (by rfl) (fun w9 _ => by go_simp; try with_reducible rfl)) ?_
   try simp only [Act.put, aA, aZ, aS]
   refine tk 12 rfl ?_
   try simp only [Act.put, aA, aZ, aS]
   refine wpAnyG_sole 13 rfl kR (by rfl) (fun u hu K hK => ?_)
   have BX := Gr.blk hu BX
   have BY := Gr.blk hu BY
   have BW := Gr.blk hu BW
   have hb := Below.gr hb hu
   have pc : u.cell? ⟨w.heap.size + 2, 3, none⟩ = some (.int .u64 0) := BW.cell 3
   have pf := BW.frozen 3
   clear hu px py
   go_simp
   refine hK _ _ (fun e => by cases e) ?_
   clear hK K
   have hb := hb.setCell (p := ⟨w.heap.size + 2, 3, none⟩) (by show w.heap.size ≤ w.heap.size + 2; omega) (.int .u64 (s3 : Int))
   have BX := BX.far (p := ⟨w.heap.size + 2, 3, none⟩) (by show w.heap.size ≠ w.heap.size + 2; omega) (.int .u64 (s3 : Int))
   have BY := BY.far (p := ⟨w.heap.size + 2, 3, none⟩) (by show w.heap.size + 1 ≠ w.heap.size + 2; omega) (.int .u64 (s3 : Int))
   have BW := BW.set_ 3 (.int .u64 (s3 : Int))
   refine wpAnyG_takeA 14 rfl kR (fun _ _ _ h => h) (fun _ => YieldsG.pure (by rfl) (fun w9 _ => by go_simp; try with_reducible rfl)) ?_
   try simp only [Act.put, aA, aZ, aS]
   refine wpAnyG_done kR (fun v hv => ?_)
   have hb := Below.gr hb hv
   have BX := Gr.blk hv BX
   have BY := Gr.blk hv BY
   have BW := Gr.blk hv BW
   clear hv pc pf
   go_wp2
   refine ⟨⟨hb, BX, BY, Lib.hid (.inr (.inr (.inr (.inr (⟨rfl, rfl, BW⟩)))))⟩, by decide⟩
  ·clear HI
   obtain ⟨s, hsd⟩ : ∃ s, s = s0 + 18446744073709551616 * s1 + 340282366920938463463374607431768211456 * s2 + 6277101735386680763835789423207666416102355444464034512896 * s3 := ⟨_, rfl⟩
   have hf := hs.out
   have hl := hlt.out
   have hn := HF.out
   rw [← hsd] at hf hl hn
   have BS := BW.eq_ (fcs_words hf.symm).symm
   have HS := Lib.hid (And.intro hl hn)
   clear hf hl hn hsd
   go_wp2_with (first | ((with_reducible refine here_load (d := some 24) ?_); refine wpList_load_fv rfl _ _ rfl (w.heap.size + 2) rfl (s) _ _ _ (BS) (fv_fcs s) Tryz.underlying24 rfl kR ?_) | ((with_reducible refine here_store ?_); refine wpList_store_blk rfl _ _ _ rfl (w.heap.size + 2) (fcs (s)) rfl rfl _ _ (BS) kR (by rfl) (fcs_one _) ?_; intro w9 hL9 hB9 hK9))
   exact bodyPost_ret (res_cell_tmp rfl _ _ (w.heap.size + 2) _ _ _ _ rfl hL9 rfl Tryz.underlying24 rfl kR) rfl ⟨⟨s, c3, HS.out.1, HK.out, HS.out.2, rfl⟩, hb.trans (hB9 _ (by omega))⟩

end Go.Proofs.YtbofhoonlmikcaaGreatDoor.Sc

end
section
namespace Go.Proofs.YtbofhoonlmikcaaGreatDoor.Sc
open Go.RowKit Go.Lib
set_option maxRecDepth 100000

theorem plus_fv (w : World) (x y s k : Nat) (hx : x < 115792089237316195423570985008687907853269984665640564039457584007913129639936) (hy : y < 115792089237316195423570985008687907853269984665640564039457584007913129639936) (hs : s < 115792089237316195423570985008687907853269984665640564039457584007913129639936) (he : s + 115792089237316195423570985008687907853269984665640564039457584007913129639936 * k = x + y) :
  Calls Tryz.prog 134 #[fv x, fv y] w fun e w' => e = .returned (.tuple #[fv s, .int .u64 (k : Int)]) ∧ Below w.heap.size w w' := by
 refine (plus_any w x y hx hy).mono ?_
 rintro e w' ⟨⟨s', k', hs', hk', he', rfl⟩, hb⟩
 obtain rfl : k' = k := by omega
 obtain rfl : s' = s := by omega
 exact ⟨rfl, hb⟩
set_option maxHeartbeats 1000000 in
theorem addF_any (w : World) (x y : Nat) (hx : x < 115792089237316195423570985008687907853269984665640564039457584007913129639936) (hy : y < 115792089237316195423570985008687907853269984665640564039457584007913129639936) : Calls Tryz.prog 83 #[fv x, fv y] w fun e w' => e = .returned (fv (addP x y)) ∧ Below w.heap.size w w' := by
 obtain ⟨p, hp⟩ : ∃ p, p = x % pM := ⟨_, rfl⟩
 obtain ⟨q, hq⟩ : ∃ q, q = y % pM := ⟨_, rfl⟩
 obtain ⟨z, hz⟩ : ∃ z, z = addP x y := ⟨_, rfl⟩
 have lp : p < 115792089237316195423570985008687907852837564279074904382605163141518161494337 := by rw [hp]; exact mod_lt_p x
 have lq : q < 115792089237316195423570985008687907852837564279074904382605163141518161494337 := by rw [hq]; exact mod_lt_p y
 have hzs : z = (p + q) % pM := by rw [hz, addP, hp, hq, ← Nat.add_mod]
 obtain ⟨s, k, hs, hk, he⟩ : ∃ s k : Nat, s < 115792089237316195423570985008687907853269984665640564039457584007913129639936 ∧ k ≤ 1 ∧ s + 115792089237316195423570985008687907853269984665640564039457584007913129639936 * k = p + q := ⟨(p + q) % 115792089237316195423570985008687907853269984665640564039457584007913129639936, (p + q) / 115792089237316195423570985008687907853269984665640564039457584007913129639936, by omega, by omega, by omega⟩
 have cx : ∀ w, Calls Tryz.prog 132 #[fv x] w fun e w' => e = .returned (fv p) ∧ Below w.heap.size w w' := by
  intro w; rw [hp]; exact norm_any w x hx
 have cy : ∀ w, Calls Tryz.prog 132 #[fv y] w fun e w' => e = .returned (fv q) ∧ Below w.heap.size w w' := by
  intro w; rw [hq]; exact norm_any w y hy
 have cp := fun w => plus_fv w p q s k (by omega) (by omega) hs he
 have cr := fun w => reduce_at w s k z k rfl hs hk (by omega) (by rw [hzs, ← he])
 rw [← hz]
 obtain ⟨x0, x1, x2, x3, fx⟩ := words_fv x hx
 obtain ⟨y0, y1, y2, y3, fy⟩ := words_fv y hy
 have FX := Lib.hid fx
 have FY := Lib.hid fy
 rw [fx, fy]
 clear fx fy hx hy hp hq hz lp lq hzs hs hk he
 go_enter Tryz.func83, Tryz.ntmps83
 go_wp2
 refine wp_region_G (fun j => j == 8) kR ?_
 try simp only [Act.put]
 refine tkw 0 rfl (YieldsG.loadF (by rfl) _ _ rfl (w.heap.size) rfl (x) _ _ (((Blk.new w _ _).alloc _).alloc _) (FX.out) Tryz.underlying24 rfl kR) ?_
 try simp only [Act.put, aA, aZ, aS]
 refine tkw 1 rfl (YieldsG.call (v := fv p) (by rfl) 132 _ (fun w9 => by go_simp; try (first | with_reducible rfl | rfl)) (fun w9 h9 => cx w9)) ?_
 try simp only [Act.put, aA, aZ, aS]
 refine tkw 2 rfl (YieldsG.loadF (by rfl) _ _ rfl (w.heap.size + 1) rfl (y) _ _ ((blk_new2 w _ _ _).alloc _) (FY.out) Tryz.underlying24 rfl kR) ?_
 try simp only [Act.put, aA, aZ, aS]
 refine tkw 3 rfl (YieldsG.call (v := fv q) (by rfl) 132 _ (fun w9 => by go_simp; try (first | with_reducible rfl | rfl)) (fun w9 h9 => cy w9)) ?_
 try simp only [Act.put, aA, aZ, aS]
 refine tkw 4 rfl (YieldsG.call (v := .tuple #[fv s, .int .u64 (k : Int)]) (by rfl) 134 _ (fun w9 => by go_simp; try (first | with_reducible rfl | rfl)) (fun w9 h9 => cp w9)) ?_
 try simp only [Act.put, aA, aZ, aS]
 refine tk 5 rfl ?_
 try simp only [Act.put, aA, aZ, aS]
 refine tk 6 rfl ?_
 try simp only [Act.put, aA, aZ, aS]
 refine tkw 7 rfl (YieldsG.call (v := fv z) (by rfl) 133 _ (fun w9 => by go_simp; try (first | with_reducible rfl | rfl)) (fun w9 h9 => cr w9)) ?_
 try simp only [Act.put, aA, aZ, aS]
 refine wpAnyG_store 8 rfl kR (by rfl) _ _ _ rfl (w.heap.size + 2) (fcs (z)) rfl rfl _ _ (blk_new3 w _ _ _ _) kR (by rfl) (fcs_one _) rfl (fun w6 h6 w7 hB7 hL7 => ?_)
 try simp only [Act.put]
 refine wpAnyG_done kR (fun w8 h8 => ?_)
 have hfin := Gr.blk h8 hL7
 have hb9 := (Below.gr (below_alloc3 w _ _ _) h6).trans ((hB7 _ (by omega)).trans (Below.mono h8 (by have := hL7.lt; omega)))
 go_wp2
 exact bodyPost_ret (results_cell_row rfl _ _ (w.heap.size + 2) _ _ (0, 0) _ rfl hfin Tryz.underlying24 rfl kR) rfl ⟨rfl, hb9⟩
set_option maxHeartbeats 1000000 in
theorem negF_any (w : World) (x : Nat) (hx : x < 115792089237316195423570985008687907853269984665640564039457584007913129639936) : Calls Tryz.prog 81 #[fv x] w fun e w' => e = .returned (fv (negP x)) ∧ Below w.heap.size w w' := by
 obtain ⟨o, ho⟩ : ∃ o, o = 115792089237316195423570985008687907852837564279074904382605163141518161494337 := ⟨_, rfl⟩
 obtain ⟨p, hp⟩ : ∃ p, p = x % pM := ⟨_, rfl⟩
 obtain ⟨z, hz⟩ : ∃ z, z = negP x := ⟨_, rfl⟩
 have lp : p < 115792089237316195423570985008687907852837564279074904382605163141518161494337 := by rw [hp]; exact mod_lt_p x
 obtain ⟨s, hs⟩ : ∃ s, s = o - p := ⟨_, rfl⟩
 have hzs : z = s % pM := by rw [hz, negP, hs, ho, hp]; rfl
 have co := fun w => order_at w o ho
 have cx : ∀ w, Calls Tryz.prog 132 #[fv x] w fun e w' => e = .returned (fv p) ∧ Below w.heap.size w w' := by
  intro w; rw [hp]; exact norm_any w x hx
 have cm := fun w => minus_fv w o p s 0 (by omega) (by omega) (by omega) (by omega)
 have cz : ∀ w, Calls Tryz.prog 132 #[fv s] w fun e w' => e = .returned (fv z) ∧ Below w.heap.size w w' := by
  intro w; rw [hzs]; exact norm_any w s (by omega)
 obtain ⟨x0, x1, x2, x3, fx⟩ := words_fv x hx
 have FX := Lib.hid fx
 rw [fx, ← hz]
 clear fx hx ho hp hz lp hs hzs
 go_enter Tryz.func81, Tryz.ntmps81
 go_wp2
 refine wp_region_G (fun j => j == 8) kR ?_
 try simp only [Act.put]
 refine tkw 0 rfl (YieldsG.call (v := fv o) (by rfl) 131 _ (fun w9 => by go_simp; try (first | with_reducible rfl | rfl)) (fun w9 h9 => co w9)) ?_
 try simp only [Act.put, aA, aZ, aS]
 refine tkw 1 rfl (YieldsG.loadF (by rfl) _ _ rfl (w.heap.size) rfl (x) _ _ ((Blk.new w _ _).alloc _) (FX.out) Tryz.underlying24 rfl kR) ?_
 try simp only [Act.put, aA, aZ, aS]
 refine tkw 2 rfl (YieldsG.call (v := fv p) (by rfl) 132 _ (fun w9 => by go_simp; try (first | with_reducible rfl | rfl)) (fun w9 h9 => cx w9)) ?_
 try simp only [Act.put, aA, aZ, aS]
 refine tkw 3 rfl (YieldsG.call (v := .tuple #[fv s, .int .u64 ((0 : Nat) : Int)]) (by rfl) 130 _ (fun w9 => by go_simp; try (first | with_reducible rfl | rfl)) (fun w9 h9 => cm w9)) ?_
 try simp only [Act.put, aA, aZ, aS]
 refine tk 4 rfl ?_
 try simp only [Act.put, aA, aZ, aS]
 refine tk 5 rfl ?_
 try simp only [Act.put, aA, aZ, aS]
 refine wpAnyG_takeA 6 rfl kR (fun _ _ _ h => h) (fun _ => YieldsG.pure (by rfl) (fun w9 _ => by go_simp; try with_reducible rfl)) ?_
 try simp only [Act.put, aA, aZ, aS]
 refine wpAnyG_sole 7 rfl kR (by rfl) (fun w3 h3 K hK => ?_)
 go_simp
 refine hK _ _ (fun _ => gr_alloc _ _) ?_
 clear hK K
 try simp only [Act.put, aA, aZ, aS]
 refine wpAnyG_store 8 rfl kR (by rfl) _ _ _ rfl (w3.heap.size) (fcs (s)) rfl rfl _ _ (Blk.new w3 _ _) kR (by rfl) (fcs_one _) rfl (fun w6 h6 w7 hB7 hL7 => ?_)
 try simp only [Act.put]
 refine wpAnyG_takeA 9 rfl kR (fun _ _ _ h => h) (fun _ => YieldsG.pure (by rfl) (fun w9 _ => by go_simp; try with_reducible rfl)) ?_
 try simp only [Act.put, aA, aZ, aS]
 refine wpAnyG_done kR (fun w8 h8 => ?_)
 have BS := Gr.blk h8 hL7
 have hsz : w.heap.size + 2 ≤ w3.heap.size := by have := h3.size; simp at this; omega
 have BR : Blk w8 (w.heap.size + 1) 24 _ := Gr.blk h8 (Blk.below (B := w3.heap.size) (Gr.blk h6 (Blk.alloc (Gr.blk h3 (blk_new2 w _ _ _)) _)) (hB7 _ (Nat.le_refl _)) (by omega))
 have hB : Below w.heap.size w w8 := Below.gr ((Below.gr ((Below.gr (below_alloc2 w _ _) h3).alloc (by omega) _) h6).trans (hB7 _ (by omega))) h8
 clear h3 h6 hB7 hL7 h8 cm co cx
 go_wp2_with (first | ((with_reducible refine here_load (d := some 12) ?_); refine wpList_load_fv rfl _ _ rfl (w3.heap.size) rfl (s) _ _ _ (BS) (fv_fcs s) Tryz.underlying24 rfl kR ?_))
 refine (cz _).mono ?_
 rintro e w9 ⟨rfl, hb⟩
 have BR9 := Gr.blk hb BR
 have hB9 := Below.gr hB hb
 go_wp2_with (first | ((with_reducible refine here_store ?_); refine wpList_store_blk rfl _ _ _ rfl (w.heap.size + 1) (fcs (z)) rfl rfl _ _ (BR9) kR (by rfl) (fcs_one _) ?_; intro wz hL hBz hKz))
 exact bodyPost_ret (results_cell_row rfl _ _ (w.heap.size + 1) _ _ (0, 0) _ rfl hL Tryz.underlying24 rfl kR) rfl ⟨rfl, hB9.trans (hBz _ (by omega))⟩
end Go.Proofs.YtbofhoonlmikcaaGreatDoor.Sc

end
section
namespace Go.Proofs.YtbofhoonlmikcaaGreatDoor.Cu
open Go.RowKit Go.Proofs.YtbofhoonlmikcaaGreatDoor Go.Proofs.YtbofhoonlmikcaaGreatDoor.Sy

theorem eql_bool_same (w : World) (F : Slots) (o : Oper) (x y : Operand) (b : Bool) {yt : TypeId} (ho : o.op = .binOp .eql 4 x y yt) (hx : evF F x = .bool b) (hy : evF F y = .bool b) : (execOp (evF F) o).run Tryz.prog w = .ok (.value (.bool true)) w := by
 unfold execOp
 simp only [ho, hx, hy]
 cases b <;> kernel_rfl
end Go.Proofs.YtbofhoonlmikcaaGreatDoor.Cu

end
section
namespace Go.Proofs.YtbofhoonlmikcaaGreatDoor.Cu
open Go.RowKit Go.Proofs.YtbofhoonlmikcaaGreatDoor Go.Proofs.YtbofhoonlmikcaaGreatDoor.Sy

theorem setAll_all : ∀ (vs : List Value) (o : Nat) (cs : Array Value), o + vs.length = cs.size → setAll cs o vs = (cs.toList.take o ++ vs).toArray
 | [], o, cs, h => by
  rw [List.append_nil, List.take_of_length_le (by simp at h ⊢; omega)]
  simp [setAll]
 | v :: r, o, cs, h => by
  have hlt : o < cs.size := by simp at h; omega
  rw [setAll, setAll_all r (o + 1) _ (by simp at h ⊢; omega)]
  congr 1
  rw [Array.toList_setIfInBounds, List.take_set, List.take_succ_eq_append_getElem (by simpa using hlt), List.set_append_right _ _ (by rw [List.length_take]; exact Nat.min_le_left _ _)]
  have : (cs.toList.take o).length = o := by simp; omega
  simp [this]
theorem key_set (cs : Array Value) (l : List UInt8) (h : l.length = cs.size) : setAll cs 0 (l.map bv).toArray.toList = (l.map bv).toArray := by
 have := setAll_all (l.map bv) 0 cs (by simp; omega)
 simpa using this
theorem key_sz (l : List UInt8) {n : Nat} (h : l.length = n) : (l.map bv).toArray.size = n := by simp; omega
theorem key_one (l : List UInt8) : (l.map bv).toArray.all (·.oneCell') = true := by simp [bv, Value.oneCell']
end Go.Proofs.YtbofhoonlmikcaaGreatDoor.Cu

end
section
namespace Go.Proofs.YtbofhoonlmikcaaGreatDoor.Cu
open Go.RowKit Go.Proofs.YtbofhoonlmikcaaGreatDoor Go.Proofs.YtbofhoonlmikcaaGreatDoor.Sy
set_option maxRecDepth 100000
set_option maxHeartbeats 4000000

def evP (k : Nat) : Pt := Ec.nm finv (k % Sc.pM) bP
theorem evP_on (k : Nat) : Ec.On (evP k) := bP_on.nm fld _
def evX : Pt → List UInt8
 | none => List.replicate 32 0
 | some (x, _) => bytesS x.val
theorem evX_length : ∀ P : Pt, (evX P).length = 32
 | none => rfl
 | some (x, _) => bytesS_length _
def evD (k : Nat) : Nat := match evP k with
 | none => 0
 | some (_, y) => if y.val % 2 = 1 then Sc.negP k else k
theorem base_mul (w : World) (k : Nat) (hk : k < K4) : Calls Tryz.prog 70 #[fv k, pv gx.val gy.val false] w (Gets w (ptv (evP k))) := by
 have h := mul_any w k gx.val gy.val false hk (lt4 _) (lt4 _)
 rw [show dec gx.val gy.val false = bP from dec_fin gx gy bP_on] at h
 exact h
theorem enc_pt (w : World) (u v : Fp) (h : v * v = u * u * u + 7) : Calls Tryz.prog 80 #[pv u.val v.val false] w (Gets w (.agg ((encS (some (u, v))).map bv).toArray)) := by
 have q := enc_any w u.val v.val false (lt4 _) (lt4 _)
 rw [dec_fin u v h] at q
 exact q
theorem even_none (w : World) (k : Nat) (hk : k < K4) (h : evP k = none) : Calls Tryz.prog 39 #[fv k] w (Gets w (.tuple #[fv 0, .agg ((evX none).map bv).toArray, .bool false])) := by
 have cM : ∀ w, Calls Tryz.prog 70 #[fv k, pv gx.val gy.val false] w (Gets w (pv 0 0 true)) := fun w => by have q := base_mul w k hk; rw [h] at q; exact q
 have cE : ∀ w, Calls Tryz.prog 80 #[pv 0 0 true] w (Gets w (.agg (Zl 33).toArray)) := fun w => by have q := enc_any w 0 0 true (by decide) (by decide); rw [dec_zero] at q; exact q
 refine Sy.enter (args := [fv k]) Tryz.func39 rfl kL ?_
 refine sC ?_
 refine sM 24 (fcs k) (fun g0 => ?_)
 refine sM 24 (fcs 0) (fun g1 => ?_)
 refine sM 31 (Zl 32).toArray (fun g2 => ?_)
 refine sP (.bool false) ?_
 refine sH (fun j => j == 5) ?_
 refine sD 0 rfl (fv k) (qL 0 g0 0 4 24 24 (fcs k) rfl Tryz.underlying24) <| sD 1 rfl (pv gx.val gy.val false) (qF 67 #[] (base_c)) <| sD 2 rfl (pv 0 0 true) (qF 70 #[fv k, pv gx.val gy.val false] (cM)) <| sD 3 rfl (.agg ((Zl 33) : List Value).toArray) (qF 80 #[pv 0 0 true] (cE)) ?_
 refine Sy.makeD 4 rfl kR kR 118 (Zl 33).toArray ptr kF (fun g3 => ?_)
 refine Sy.writeD 5 rfl kR (by rfl) kR 3 g3 118 (Zl 33).toArray (Zl 33).toArray kR (Writes.store 0 118 (Zl 33).toArray _ _ rfl kR kR kR kL kR kR) ?_
 refine sI ?_
 refine Sy.seq <| sC ?_
 refine sP (.pointer (some ⟨g3, 0, none⟩)) <| sS (.int .u8 0) (Quiet.cell 3 g3 0 118 5 (Zl 33).toArray _ _ rfl kR kR Tryz.underlying5 rfl _ kR) ?_
 refine sG <| Sy.block <| sC ?_
 refine sP (.bool true) <| sP (.bool true) ?_
 refine sG <| sT <| sC ?_
 refine sP (fv 0) <| sP (.agg ((Zl 32) : List Value).toArray) <| sW 1 g1 24 (fcs 0) (fcs 0) (wS 0 24 (fcs 0) rfl) <| sW 2 g2 31 (Zl 32).toArray (Zl 32).toArray (wS 0 31 (Zl 32).toArray rfl) <| sP (.bool false) ?_
 refine sG <| Sy.ret <| Sy.in_ret <| Sy.then_ret ?_
 rw [show (.tuple #[fv 0, .agg ((evX none).map bv).toArray, .bool false] : Value) = .tuple #[fv 0, .agg ((Zl 32) : List Value).toArray, .bool false] from by kernel_rfl]
 exact Sy.ret3 (v := fv 0) (u := .agg ((Zl 32) : List Value).toArray) (x := .bool false) rfl (.inl (Res.cell (ty' := 24) g1 1 (fcs 0) _ kR kR Tryz.underlying24 rfl kR kR)) (.inl (Res.cell (ty' := 31) g2 2 (Zl 32).toArray _ kR kR Tryz.underlying31 rfl kR kR)) (.inl (show _ = _ by kernel_rfl))
theorem even_2 (w : World) (k : Nat) (hk : k < K4) (u v : Fp) (h : evP k = some (u, v)) (ho : v * v = u * u * u + 7) (hv : v.val % 2 = 0) : Calls Tryz.prog 39 #[fv k] w (Gets w (.tuple #[fv k, .agg ((evX (some (u, v))).map bv).toArray, .bool true])) := by
 obtain ⟨a0, a1, a2, a3, a4, a5, a6, a7, a8, a9, a10, a11, a12, a13, a14, a15, a16, a17, a18, a19, a20, a21, a22, a23, a24, a25, a26, a27, a28, a29, a30, a31, hm⟩ := list32 (bytesS u.val) (bytesS_length _)
 have cM : ∀ w, Calls Tryz.prog 70 #[fv k, pv gx.val gy.val false] w (Gets w (pv u.val v.val false)) := fun w => by have q := base_mul w k hk; rw [h] at q; exact q
 have cE : ∀ w, Calls Tryz.prog 80 #[pv u.val v.val false] w (Gets w (.agg ((.int .u8 2 :: bv a0 :: bv a1 :: [bv a2, bv a3, bv a4, bv a5, bv a6, bv a7, bv a8, bv a9, bv a10, bv a11, bv a12, bv a13, bv a14, bv a15, bv a16, bv a17, bv a18, bv a19, bv a20, bv a21, bv a22, bv a23, bv a24, bv a25, bv a26, bv a27, bv a28, bv a29, bv a30, bv a31]) : List Value).toArray)) := fun w => by
  have q := enc_pt w u v ho
  rw [show encS (some (u, v)) = 2 :: bytesS u.val from by show (if v.val % 2 = 1 then (3 : UInt8) else 2) :: bytesS u.val = _; rw [if_neg (by omega)], hm] at q
  exact q
 refine Sy.enter (args := [fv k]) Tryz.func39 rfl kL ?_
 refine sC ?_
 refine sM 24 (fcs k) (fun g0 => ?_)
 refine sM 24 (fcs 0) (fun g1 => ?_)
 refine sM 31 (Zl 32).toArray (fun g2 => ?_)
 refine sP (.bool false) ?_
 refine sH (fun j => j == 5) ?_
 refine sD 0 rfl (fv k) (qL 0 g0 0 4 24 24 (fcs k) rfl Tryz.underlying24) <| sD 1 rfl (pv gx.val gy.val false) (qF 67 #[] (base_c)) <| sD 2 rfl (pv u.val v.val false) (qF 70 #[fv k, pv gx.val gy.val false] (cM)) <| sD 3 rfl (.agg ((.int .u8 2 :: bv a0 :: bv a1 :: [bv a2, bv a3, bv a4, bv a5, bv a6, bv a7, bv a8, bv a9, bv a10, bv a11, bv a12, bv a13, bv a14, bv a15, bv a16, bv a17, bv a18, bv a19, bv a20, bv a21, bv a22, bv a23, bv a24, bv a25, bv a26, bv a27, bv a28, bv a29, bv a30, bv a31]) : List Value).toArray) (qF 80 #[pv u.val v.val false] (cE)) ?_
 refine Sy.makeD 4 rfl kR kR 118 (Zl 33).toArray ptr kF (fun g3 => ?_)
 refine Sy.writeD 5 rfl kR (by rfl) kR 3 g3 118 (Zl 33).toArray (.int .u8 2 :: bv a0 :: bv a1 :: [bv a2, bv a3, bv a4, bv a5, bv a6, bv a7, bv a8, bv a9, bv a10, bv a11, bv a12, bv a13, bv a14, bv a15, bv a16, bv a17, bv a18, bv a19, bv a20, bv a21, bv a22, bv a23, bv a24, bv a25, bv a26, bv a27, bv a28, bv a29, bv a30, bv a31]).toArray kR (Writes.store 0 118 (.int .u8 2 :: bv a0 :: bv a1 :: [bv a2, bv a3, bv a4, bv a5, bv a6, bv a7, bv a8, bv a9, bv a10, bv a11, bv a12, bv a13, bv a14, bv a15, bv a16, bv a17, bv a18, bv a19, bv a20, bv a21, bv a22, bv a23, bv a24, bv a25, bv a26, bv a27, bv a28, bv a29, bv a30, bv a31]).toArray _ _ rfl kR kR kR kL kR kR) ?_
 refine sI ?_
 refine Sy.seq <| sC ?_
 refine sP (.pointer (some ⟨g3, 0, none⟩)) <| sS (.int .u8 2) (Quiet.cell 3 g3 0 118 5 (.int .u8 2 :: bv a0 :: bv a1 :: [bv a2, bv a3, bv a4, bv a5, bv a6, bv a7, bv a8, bv a9, bv a10, bv a11, bv a12, bv a13, bv a14, bv a15, bv a16, bv a17, bv a18, bv a19, bv a20, bv a21, bv a22, bv a23, bv a24, bv a25, bv a26, bv a27, bv a28, bv a29, bv a30, bv a31]).toArray _ _ rfl kR kR Tryz.underlying5 rfl _ kR) ?_
 refine sG <| Sy.block <| sC ?_
 refine sP (.bool false) <| sP (.bool false) ?_
 refine sG <| sU <| sC ?_
 refine sP (.bool false) <| sP (.bool false) ?_
 refine sG <| sU <| Sy.skip <| Sy.in_ ?_
 refine sR (fun j => j == 4 || j == 5) ?_
 refine sD 0 rfl (fv k) (qL 0 g0 0 4 24 24 (fcs k) rfl Tryz.underlying24) ?_
 refine Sy.joinD (fun gq => [(0, fv k), (1, .pointer (some ⟨g0, 0, none⟩)), (2, .pointer (some ⟨g1, 0, none⟩)), (3, .pointer (some ⟨g2, 0, none⟩)), (4, .bool false), (5, .pointer (some ⟨g3, 0, none⟩)), (6, fv k), (7, pv gx.val gy.val false), (8, pv u.val v.val false), (9, .agg ((.int .u8 2 :: bv a0 :: bv a1 :: [bv a2, bv a3, bv a4, bv a5, bv a6, bv a7, bv a8, bv a9, bv a10, bv a11, bv a12, bv a13, bv a14, bv a15, bv a16, bv a17, bv a18, bv a19, bv a20, bv a21, bv a22, bv a23, bv a24, bv a25, bv a26, bv a27, bv a28, bv a29, bv a30, bv a31]) : List Value).toArray), (10, .pointer (some ⟨g3, 0, none⟩)), (11, .int .u8 2), (12, .bool false), (13, .bool false), (16, .bool false), (17, .bool false), (20, fv k), (21, .slice (some ⟨g3, 1, none⟩) 32 32), (22, .pointer (some ⟨g3, 1, none⟩)), (23, .agg ((bv a0 :: bv a1 :: [bv a2, bv a3, bv a4, bv a5, bv a6, bv a7, bv a8, bv a9, bv a10, bv a11, bv a12, bv a13, bv a14, bv a15, bv a16, bv a17, bv a18, bv a19, bv a20, bv a21, bv a22, bv a23, bv a24, bv a25, bv a26, bv a27, bv a28, bv a29, bv a30, bv a31]) : List Value).toArray)]) (fun gq => [(g0, 24, (fcs k)), (g1, 24, (fcs k)), (g2, 31, (Zl 32).toArray), (g3, 118, (.int .u8 2 :: bv a0 :: bv a1 :: [bv a2, bv a3, bv a4, bv a5, bv a6, bv a7, bv a8, bv a9, bv a10, bv a11, bv a12, bv a13, bv a14, bv a15, bv a16, bv a17, bv a18, bv a19, bv a20, bv a21, bv a22, bv a23, bv a24, bv a25, bv a26, bv a27, bv a28, bv a29, bv a30, bv a31]).toArray)]) 2 #[true, true, true, true, true, false, false] (fun gq => ?_) (fun fin => ?_)
 ·refine sX 5 rfl 2 g2 31 (Zl 32).toArray (bv a0 :: bv a1 :: [bv a2, bv a3, bv a4, bv a5, bv a6, bv a7, bv a8, bv a9, bv a10, bv a11, bv a12, bv a13, bv a14, bv a15, bv a16, bv a17, bv a18, bv a19, bv a20, bv a21, bv a22, bv a23, bv a24, bv a25, bv a26, bv a27, bv a28, bv a29, bv a30, bv a31]).toArray (wS 0 31 (bv a0 :: bv a1 :: [bv a2, bv a3, bv a4, bv a5, bv a6, bv a7, bv a8, bv a9, bv a10, bv a11, bv a12, bv a13, bv a14, bv a15, bv a16, bv a17, bv a18, bv a19, bv a20, bv a21, bv a22, bv a23, bv a24, bv a25, bv a26, bv a27, bv a28, bv a29, bv a30, bv a31]).toArray rfl) ?_
  refine Sy.anyOf [6] kR (by decide) (Sy.each1 ?_)
  refine Sy.oneQuiet rfl kR (.bool true) qP ?_
  refine sI ?_
  refine Sy.ret ?_
  rw [show (.tuple #[fv k, .agg ((evX (some (u, v))).map bv).toArray, .bool true] : Value) = .tuple #[fv k, .agg ((bv a0 :: bv a1 :: [bv a2, bv a3, bv a4, bv a5, bv a6, bv a7, bv a8, bv a9, bv a10, bv a11, bv a12, bv a13, bv a14, bv a15, bv a16, bv a17, bv a18, bv a19, bv a20, bv a21, bv a22, bv a23, bv a24, bv a25, bv a26, bv a27, bv a28, bv a29, bv a30, bv a31]) : List Value).toArray, .bool true] from by rw [show evX (some (u, v)) = bytesS u.val from rfl, hm]; rfl]
  exact Sy.ret3 (v := fv k) (u := .agg ((bv a0 :: bv a1 :: [bv a2, bv a3, bv a4, bv a5, bv a6, bv a7, bv a8, bv a9, bv a10, bv a11, bv a12, bv a13, bv a14, bv a15, bv a16, bv a17, bv a18, bv a19, bv a20, bv a21, bv a22, bv a23, bv a24, bv a25, bv a26, bv a27, bv a28, bv a29, bv a30, bv a31]) : List Value).toArray) (x := .bool true) rfl (.inl (Res.cell (ty' := 24) g1 1 (fcs k) _ kR kR Tryz.underlying24 rfl kR kR)) (.inl (Res.cell (ty' := 31) g2 2 (bv a0 :: bv a1 :: [bv a2, bv a3, bv a4, bv a5, bv a6, bv a7, bv a8, bv a9, bv a10, bv a11, bv a12, bv a13, bv a14, bv a15, bv a16, bv a17, bv a18, bv a19, bv a20, bv a21, bv a22, bv a23, bv a24, bv a25, bv a26, bv a27, bv a28, bv a29, bv a30, bv a31]).toArray _ kR kR Tryz.underlying31 rfl kR kR)) (.inl (show _ = _ by kernel_rfl))
 ·refine Sy.anyOf [1, 4] kR (by decide) (Sy.each2 ?_ ?_)
  ·refine Sy.oneQuiet rfl kR (.slice (some ⟨g3, 1, none⟩) 32 32) qP ?_
   refine Sy.anyOf [2, 4] kR (by decide) (Sy.each2 ?_ ?_)
   ·refine Sy.oneQuiet rfl kR (.pointer (some ⟨g3, 1, none⟩)) qP ?_
    refine Sy.anyOf [3, 4] kR (by decide) (Sy.each2 ?_ ?_)
    ·refine Sy.oneQuiet rfl kR (.agg ((bv a0 :: bv a1 :: [bv a2, bv a3, bv a4, bv a5, bv a6, bv a7, bv a8, bv a9, bv a10, bv a11, bv a12, bv a13, bv a14, bv a15, bv a16, bv a17, bv a18, bv a19, bv a20, bv a21, bv a22, bv a23, bv a24, bv a25, bv a26, bv a27, bv a28, bv a29, bv a30, bv a31]) : List Value).toArray) (Quiet.load 3 g3 1 32 118 31 (.int .u8 2 :: bv a0 :: bv a1 :: [bv a2, bv a3, bv a4, bv a5, bv a6, bv a7, bv a8, bv a9, bv a10, bv a11, bv a12, bv a13, bv a14, bv a15, bv a16, bv a17, bv a18, bv a19, bv a20, bv a21, bv a22, bv a23, bv a24, bv a25, bv a26, bv a27, bv a28, bv a29, bv a30, bv a31]).toArray _ _ rfl kR kR Tryz.underlying31 rfl kR _ kR kL) ?_
     refine Sy.anyOf [4] kR (by decide) (Sy.each1 ?_)
     ·refine Sy.oneWrite rfl (by rfl) kR 1 g1 24 (fcs 0) (fcs k) kR (wS 0 24 (fcs k) rfl) ?_
      exact Sy.leafI fin (fun i => 0) kR (all_cons kR (all_cons kR (all_cons kR (all_cons kR (all_cons kR (all_cons kR (all_cons kR (all_cons kR (all_cons kR (all_cons kR (all_cons kR (all_cons kR (all_cons kR (all_cons kR (all_cons kR (all_cons kR (all_cons kR (all_cons kR (all_cons kR (all_cons kR all_nil)))))))))))))))))))) kR
    ·refine Sy.oneWrite rfl (by rfl) kR 1 g1 24 (fcs 0) (fcs k) kR (wS 0 24 (fcs k) rfl) ?_
     refine Sy.anyOf [3] kR (by decide) (Sy.each1 ?_)
     ·refine Sy.oneQuiet rfl kR (.agg ((bv a0 :: bv a1 :: [bv a2, bv a3, bv a4, bv a5, bv a6, bv a7, bv a8, bv a9, bv a10, bv a11, bv a12, bv a13, bv a14, bv a15, bv a16, bv a17, bv a18, bv a19, bv a20, bv a21, bv a22, bv a23, bv a24, bv a25, bv a26, bv a27, bv a28, bv a29, bv a30, bv a31]) : List Value).toArray) (Quiet.load 3 g3 1 32 118 31 (.int .u8 2 :: bv a0 :: bv a1 :: [bv a2, bv a3, bv a4, bv a5, bv a6, bv a7, bv a8, bv a9, bv a10, bv a11, bv a12, bv a13, bv a14, bv a15, bv a16, bv a17, bv a18, bv a19, bv a20, bv a21, bv a22, bv a23, bv a24, bv a25, bv a26, bv a27, bv a28, bv a29, bv a30, bv a31]).toArray _ _ rfl kR kR Tryz.underlying31 rfl kR _ kR kL) ?_
      exact Sy.leafI fin (fun i => 0) kR (all_cons kR (all_cons kR (all_cons kR (all_cons kR (all_cons kR (all_cons kR (all_cons kR (all_cons kR (all_cons kR (all_cons kR (all_cons kR (all_cons kR (all_cons kR (all_cons kR (all_cons kR (all_cons kR (all_cons kR (all_cons kR (all_cons kR (all_cons kR all_nil)))))))))))))))))))) kR
   ·refine Sy.oneWrite rfl (by rfl) kR 1 g1 24 (fcs 0) (fcs k) kR (wS 0 24 (fcs k) rfl) ?_
    refine Sy.anyOf [2] kR (by decide) (Sy.each1 ?_)
    ·refine Sy.oneQuiet rfl kR (.pointer (some ⟨g3, 1, none⟩)) qP ?_
     refine Sy.anyOf [3] kR (by decide) (Sy.each1 ?_)
     ·refine Sy.oneQuiet rfl kR (.agg ((bv a0 :: bv a1 :: [bv a2, bv a3, bv a4, bv a5, bv a6, bv a7, bv a8, bv a9, bv a10, bv a11, bv a12, bv a13, bv a14, bv a15, bv a16, bv a17, bv a18, bv a19, bv a20, bv a21, bv a22, bv a23, bv a24, bv a25, bv a26, bv a27, bv a28, bv a29, bv a30, bv a31]) : List Value).toArray) (Quiet.load 3 g3 1 32 118 31 (.int .u8 2 :: bv a0 :: bv a1 :: [bv a2, bv a3, bv a4, bv a5, bv a6, bv a7, bv a8, bv a9, bv a10, bv a11, bv a12, bv a13, bv a14, bv a15, bv a16, bv a17, bv a18, bv a19, bv a20, bv a21, bv a22, bv a23, bv a24, bv a25, bv a26, bv a27, bv a28, bv a29, bv a30, bv a31]).toArray _ _ rfl kR kR Tryz.underlying31 rfl kR _ kR kL) ?_
      exact Sy.leafI fin (fun i => 0) kR (all_cons kR (all_cons kR (all_cons kR (all_cons kR (all_cons kR (all_cons kR (all_cons kR (all_cons kR (all_cons kR (all_cons kR (all_cons kR (all_cons kR (all_cons kR (all_cons kR (all_cons kR (all_cons kR (all_cons kR (all_cons kR (all_cons kR (all_cons kR all_nil)))))))))))))))))))) kR
  ·refine Sy.oneWrite rfl (by rfl) kR 1 g1 24 (fcs 0) (fcs k) kR (wS 0 24 (fcs k) rfl) ?_
   refine Sy.anyOf [1] kR (by decide) (Sy.each1 ?_)
   ·refine Sy.oneQuiet rfl kR (.slice (some ⟨g3, 1, none⟩) 32 32) qP ?_
    refine Sy.anyOf [2] kR (by decide) (Sy.each1 ?_)
    ·refine Sy.oneQuiet rfl kR (.pointer (some ⟨g3, 1, none⟩)) qP ?_
     refine Sy.anyOf [3] kR (by decide) (Sy.each1 ?_)
     ·refine Sy.oneQuiet rfl kR (.agg ((bv a0 :: bv a1 :: [bv a2, bv a3, bv a4, bv a5, bv a6, bv a7, bv a8, bv a9, bv a10, bv a11, bv a12, bv a13, bv a14, bv a15, bv a16, bv a17, bv a18, bv a19, bv a20, bv a21, bv a22, bv a23, bv a24, bv a25, bv a26, bv a27, bv a28, bv a29, bv a30, bv a31]) : List Value).toArray) (Quiet.load 3 g3 1 32 118 31 (.int .u8 2 :: bv a0 :: bv a1 :: [bv a2, bv a3, bv a4, bv a5, bv a6, bv a7, bv a8, bv a9, bv a10, bv a11, bv a12, bv a13, bv a14, bv a15, bv a16, bv a17, bv a18, bv a19, bv a20, bv a21, bv a22, bv a23, bv a24, bv a25, bv a26, bv a27, bv a28, bv a29, bv a30, bv a31]).toArray _ _ rfl kR kR Tryz.underlying31 rfl kR _ kR kL) ?_
      exact Sy.leafI fin (fun i => 0) kR (all_cons kR (all_cons kR (all_cons kR (all_cons kR (all_cons kR (all_cons kR (all_cons kR (all_cons kR (all_cons kR (all_cons kR (all_cons kR (all_cons kR (all_cons kR (all_cons kR (all_cons kR (all_cons kR (all_cons kR (all_cons kR (all_cons kR (all_cons kR all_nil)))))))))))))))))))) kR
theorem even_3 (w : World) (k : Nat) (hk : k < K4) (u v : Fp) (h : evP k = some (u, v)) (ho : v * v = u * u * u + 7) (hv : v.val % 2 = 1) : Calls Tryz.prog 39 #[fv k] w (Gets w (.tuple #[fv (Sc.negP k), .agg ((evX (some (u, v))).map bv).toArray, .bool true])) := by
 obtain ⟨a0, a1, a2, a3, a4, a5, a6, a7, a8, a9, a10, a11, a12, a13, a14, a15, a16, a17, a18, a19, a20, a21, a22, a23, a24, a25, a26, a27, a28, a29, a30, a31, hm⟩ := list32 (bytesS u.val) (bytesS_length _)
 have cM : ∀ w, Calls Tryz.prog 70 #[fv k, pv gx.val gy.val false] w (Gets w (pv u.val v.val false)) := fun w => by have q := base_mul w k hk; rw [h] at q; exact q
 have cE : ∀ w, Calls Tryz.prog 80 #[pv u.val v.val false] w (Gets w (.agg ((.int .u8 3 :: bv a0 :: bv a1 :: [bv a2, bv a3, bv a4, bv a5, bv a6, bv a7, bv a8, bv a9, bv a10, bv a11, bv a12, bv a13, bv a14, bv a15, bv a16, bv a17, bv a18, bv a19, bv a20, bv a21, bv a22, bv a23, bv a24, bv a25, bv a26, bv a27, bv a28, bv a29, bv a30, bv a31]) : List Value).toArray)) := fun w => by
  have q := enc_pt w u v ho
  rw [show encS (some (u, v)) = 3 :: bytesS u.val from by show (if v.val % 2 = 1 then (3 : UInt8) else 2) :: bytesS u.val = _; rw [if_pos (by omega)], hm] at q
  exact q
 refine Sy.enter (args := [fv k]) Tryz.func39 rfl kL ?_
 refine sC ?_
 refine sM 24 (fcs k) (fun g0 => ?_)
 refine sM 24 (fcs 0) (fun g1 => ?_)
 refine sM 31 (Zl 32).toArray (fun g2 => ?_)
 refine sP (.bool false) ?_
 refine sH (fun j => j == 5) ?_
 refine sD 0 rfl (fv k) (qL 0 g0 0 4 24 24 (fcs k) rfl Tryz.underlying24) <| sD 1 rfl (pv gx.val gy.val false) (qF 67 #[] (base_c)) <| sD 2 rfl (pv u.val v.val false) (qF 70 #[fv k, pv gx.val gy.val false] (cM)) <| sD 3 rfl (.agg ((.int .u8 3 :: bv a0 :: bv a1 :: [bv a2, bv a3, bv a4, bv a5, bv a6, bv a7, bv a8, bv a9, bv a10, bv a11, bv a12, bv a13, bv a14, bv a15, bv a16, bv a17, bv a18, bv a19, bv a20, bv a21, bv a22, bv a23, bv a24, bv a25, bv a26, bv a27, bv a28, bv a29, bv a30, bv a31]) : List Value).toArray) (qF 80 #[pv u.val v.val false] (cE)) ?_
 refine Sy.makeD 4 rfl kR kR 118 (Zl 33).toArray ptr kF (fun g3 => ?_)
 refine Sy.writeD 5 rfl kR (by rfl) kR 3 g3 118 (Zl 33).toArray (.int .u8 3 :: bv a0 :: bv a1 :: [bv a2, bv a3, bv a4, bv a5, bv a6, bv a7, bv a8, bv a9, bv a10, bv a11, bv a12, bv a13, bv a14, bv a15, bv a16, bv a17, bv a18, bv a19, bv a20, bv a21, bv a22, bv a23, bv a24, bv a25, bv a26, bv a27, bv a28, bv a29, bv a30, bv a31]).toArray kR (Writes.store 0 118 (.int .u8 3 :: bv a0 :: bv a1 :: [bv a2, bv a3, bv a4, bv a5, bv a6, bv a7, bv a8, bv a9, bv a10, bv a11, bv a12, bv a13, bv a14, bv a15, bv a16, bv a17, bv a18, bv a19, bv a20, bv a21, bv a22, bv a23, bv a24, bv a25, bv a26, bv a27, bv a28, bv a29, bv a30, bv a31]).toArray _ _ rfl kR kR kR kL kR kR) ?_
 refine sI ?_
 refine Sy.seq <| sC ?_
 refine sP (.pointer (some ⟨g3, 0, none⟩)) <| sS (.int .u8 3) (Quiet.cell 3 g3 0 118 5 (.int .u8 3 :: bv a0 :: bv a1 :: [bv a2, bv a3, bv a4, bv a5, bv a6, bv a7, bv a8, bv a9, bv a10, bv a11, bv a12, bv a13, bv a14, bv a15, bv a16, bv a17, bv a18, bv a19, bv a20, bv a21, bv a22, bv a23, bv a24, bv a25, bv a26, bv a27, bv a28, bv a29, bv a30, bv a31]).toArray _ _ rfl kR kR Tryz.underlying5 rfl _ kR) ?_
 refine sG <| Sy.block <| sC ?_
 refine sP (.bool false) <| sP (.bool false) ?_
 refine sG <| sU <| sC ?_
 refine sP (.bool true) <| sP (.bool true) ?_
 refine sG <| sT <| Sy.region ?_
 refine sS (fv k) (qL 0 g0 0 4 24 24 (fcs k) rfl Tryz.underlying24) <| sS (fv (Sc.negP k)) (qF 81 #[fv k] (fun w => Sc.negF_any w k hk)) <| sW 0 g0 24 (fcs k) (fcs (Sc.negP k)) (wS 0 24 (fcs (Sc.negP k)) rfl) ?_
 refine Sy.nil <| Sy.in_ ?_
 refine sR (fun j => j == 4 || j == 5) ?_
 refine sD 0 rfl (fv (Sc.negP k)) (qL 0 g0 0 4 24 24 (fcs (Sc.negP k)) rfl Tryz.underlying24) ?_
 refine Sy.joinD (fun gq => [(0, fv k), (1, .pointer (some ⟨g0, 0, none⟩)), (2, .pointer (some ⟨g1, 0, none⟩)), (3, .pointer (some ⟨g2, 0, none⟩)), (4, .bool false), (5, .pointer (some ⟨g3, 0, none⟩)), (6, fv k), (7, pv gx.val gy.val false), (8, pv u.val v.val false), (9, .agg ((.int .u8 3 :: bv a0 :: bv a1 :: [bv a2, bv a3, bv a4, bv a5, bv a6, bv a7, bv a8, bv a9, bv a10, bv a11, bv a12, bv a13, bv a14, bv a15, bv a16, bv a17, bv a18, bv a19, bv a20, bv a21, bv a22, bv a23, bv a24, bv a25, bv a26, bv a27, bv a28, bv a29, bv a30, bv a31]) : List Value).toArray), (10, .pointer (some ⟨g3, 0, none⟩)), (11, .int .u8 3), (12, .bool false), (13, .bool false), (16, .bool true), (17, .bool true), (18, fv k), (19, fv (Sc.negP k)), (20, fv (Sc.negP k)), (21, .slice (some ⟨g3, 1, none⟩) 32 32), (22, .pointer (some ⟨g3, 1, none⟩)), (23, .agg ((bv a0 :: bv a1 :: [bv a2, bv a3, bv a4, bv a5, bv a6, bv a7, bv a8, bv a9, bv a10, bv a11, bv a12, bv a13, bv a14, bv a15, bv a16, bv a17, bv a18, bv a19, bv a20, bv a21, bv a22, bv a23, bv a24, bv a25, bv a26, bv a27, bv a28, bv a29, bv a30, bv a31]) : List Value).toArray)]) (fun gq => [(g0, 24, (fcs (Sc.negP k))), (g1, 24, (fcs (Sc.negP k))), (g2, 31, (Zl 32).toArray), (g3, 118, (.int .u8 3 :: bv a0 :: bv a1 :: [bv a2, bv a3, bv a4, bv a5, bv a6, bv a7, bv a8, bv a9, bv a10, bv a11, bv a12, bv a13, bv a14, bv a15, bv a16, bv a17, bv a18, bv a19, bv a20, bv a21, bv a22, bv a23, bv a24, bv a25, bv a26, bv a27, bv a28, bv a29, bv a30, bv a31]).toArray)]) 2 #[true, true, true, true, true, false, false] (fun gq => ?_) (fun fin => ?_)
 ·refine sX 5 rfl 2 g2 31 (Zl 32).toArray (bv a0 :: bv a1 :: [bv a2, bv a3, bv a4, bv a5, bv a6, bv a7, bv a8, bv a9, bv a10, bv a11, bv a12, bv a13, bv a14, bv a15, bv a16, bv a17, bv a18, bv a19, bv a20, bv a21, bv a22, bv a23, bv a24, bv a25, bv a26, bv a27, bv a28, bv a29, bv a30, bv a31]).toArray (wS 0 31 (bv a0 :: bv a1 :: [bv a2, bv a3, bv a4, bv a5, bv a6, bv a7, bv a8, bv a9, bv a10, bv a11, bv a12, bv a13, bv a14, bv a15, bv a16, bv a17, bv a18, bv a19, bv a20, bv a21, bv a22, bv a23, bv a24, bv a25, bv a26, bv a27, bv a28, bv a29, bv a30, bv a31]).toArray rfl) ?_
  refine Sy.anyOf [6] kR (by decide) (Sy.each1 ?_)
  refine Sy.oneQuiet rfl kR (.bool true) qP ?_
  refine sI ?_
  refine Sy.ret ?_
  rw [show (.tuple #[fv (Sc.negP k), .agg ((evX (some (u, v))).map bv).toArray, .bool true] : Value) = .tuple #[fv (Sc.negP k), .agg ((bv a0 :: bv a1 :: [bv a2, bv a3, bv a4, bv a5, bv a6, bv a7, bv a8, bv a9, bv a10, bv a11, bv a12, bv a13, bv a14, bv a15, bv a16, bv a17, bv a18, bv a19, bv a20, bv a21, bv a22, bv a23, bv a24, bv a25, bv a26, bv a27, bv a28, bv a29, bv a30, bv a31]) : List Value).toArray, .bool true] from by rw [show evX (some (u, v)) = bytesS u.val from rfl, hm]; rfl]
  exact Sy.ret3 (v := fv (Sc.negP k)) (u := .agg ((bv a0 :: bv a1 :: [bv a2, bv a3, bv a4, bv a5, bv a6, bv a7, bv a8, bv a9, bv a10, bv a11, bv a12, bv a13, bv a14, bv a15, bv a16, bv a17, bv a18, bv a19, bv a20, bv a21, bv a22, bv a23, bv a24, bv a25, bv a26, bv a27, bv a28, bv a29, bv a30, bv a31]) : List Value).toArray) (x := .bool true) rfl (.inl (Res.cell (ty' := 24) g1 1 (fcs (Sc.negP k)) _ kR kR Tryz.underlying24 rfl kR kR)) (.inl (Res.cell (ty' := 31) g2 2 (bv a0 :: bv a1 :: [bv a2, bv a3, bv a4, bv a5, bv a6, bv a7, bv a8, bv a9, bv a10, bv a11, bv a12, bv a13, bv a14, bv a15, bv a16, bv a17, bv a18, bv a19, bv a20, bv a21, bv a22, bv a23, bv a24, bv a25, bv a26, bv a27, bv a28, bv a29, bv a30, bv a31]).toArray _ kR kR Tryz.underlying31 rfl kR kR)) (.inl (show _ = _ by kernel_rfl))
 ·refine Sy.anyOf [1, 4] kR (by decide) (Sy.each2 ?_ ?_)
  ·refine Sy.oneQuiet rfl kR (.slice (some ⟨g3, 1, none⟩) 32 32) qP ?_
   refine Sy.anyOf [2, 4] kR (by decide) (Sy.each2 ?_ ?_)
   ·refine Sy.oneQuiet rfl kR (.pointer (some ⟨g3, 1, none⟩)) qP ?_
    refine Sy.anyOf [3, 4] kR (by decide) (Sy.each2 ?_ ?_)
    ·refine Sy.oneQuiet rfl kR (.agg ((bv a0 :: bv a1 :: [bv a2, bv a3, bv a4, bv a5, bv a6, bv a7, bv a8, bv a9, bv a10, bv a11, bv a12, bv a13, bv a14, bv a15, bv a16, bv a17, bv a18, bv a19, bv a20, bv a21, bv a22, bv a23, bv a24, bv a25, bv a26, bv a27, bv a28, bv a29, bv a30, bv a31]) : List Value).toArray) (Quiet.load 3 g3 1 32 118 31 (.int .u8 3 :: bv a0 :: bv a1 :: [bv a2, bv a3, bv a4, bv a5, bv a6, bv a7, bv a8, bv a9, bv a10, bv a11, bv a12, bv a13, bv a14, bv a15, bv a16, bv a17, bv a18, bv a19, bv a20, bv a21, bv a22, bv a23, bv a24, bv a25, bv a26, bv a27, bv a28, bv a29, bv a30, bv a31]).toArray _ _ rfl kR kR Tryz.underlying31 rfl kR _ kR kL) ?_
     refine Sy.anyOf [4] kR (by decide) (Sy.each1 ?_)
     ·refine Sy.oneWrite rfl (by rfl) kR 1 g1 24 (fcs 0) (fcs (Sc.negP k)) kR (wS 0 24 (fcs (Sc.negP k)) rfl) ?_
      exact Sy.leafI fin (fun i => 0) kR (all_cons kR (all_cons kR (all_cons kR (all_cons kR (all_cons kR (all_cons kR (all_cons kR (all_cons kR (all_cons kR (all_cons kR (all_cons kR (all_cons kR (all_cons kR (all_cons kR (all_cons kR (all_cons kR (all_cons kR (all_cons kR (all_cons kR (all_cons kR (all_cons kR (all_cons kR all_nil)))))))))))))))))))))) kR
    ·refine Sy.oneWrite rfl (by rfl) kR 1 g1 24 (fcs 0) (fcs (Sc.negP k)) kR (wS 0 24 (fcs (Sc.negP k)) rfl) ?_
     refine Sy.anyOf [3] kR (by decide) (Sy.each1 ?_)
     ·refine Sy.oneQuiet rfl kR (.agg ((bv a0 :: bv a1 :: [bv a2, bv a3, bv a4, bv a5, bv a6, bv a7, bv a8, bv a9, bv a10, bv a11, bv a12, bv a13, bv a14, bv a15, bv a16, bv a17, bv a18, bv a19, bv a20, bv a21, bv a22, bv a23, bv a24, bv a25, bv a26, bv a27, bv a28, bv a29, bv a30, bv a31]) : List Value).toArray) (Quiet.load 3 g3 1 32 118 31 (.int .u8 3 :: bv a0 :: bv a1 :: [bv a2, bv a3, bv a4, bv a5, bv a6, bv a7, bv a8, bv a9, bv a10, bv a11, bv a12, bv a13, bv a14, bv a15, bv a16, bv a17, bv a18, bv a19, bv a20, bv a21, bv a22, bv a23, bv a24, bv a25, bv a26, bv a27, bv a28, bv a29, bv a30, bv a31]).toArray _ _ rfl kR kR Tryz.underlying31 rfl kR _ kR kL) ?_
      exact Sy.leafI fin (fun i => 0) kR (all_cons kR (all_cons kR (all_cons kR (all_cons kR (all_cons kR (all_cons kR (all_cons kR (all_cons kR (all_cons kR (all_cons kR (all_cons kR (all_cons kR (all_cons kR (all_cons kR (all_cons kR (all_cons kR (all_cons kR (all_cons kR (all_cons kR (all_cons kR (all_cons kR (all_cons kR all_nil)))))))))))))))))))))) kR
   ·refine Sy.oneWrite rfl (by rfl) kR 1 g1 24 (fcs 0) (fcs (Sc.negP k)) kR (wS 0 24 (fcs (Sc.negP k)) rfl) ?_
    refine Sy.anyOf [2] kR (by decide) (Sy.each1 ?_)
    ·refine Sy.oneQuiet rfl kR (.pointer (some ⟨g3, 1, none⟩)) qP ?_
     refine Sy.anyOf [3] kR (by decide) (Sy.each1 ?_)
     ·refine Sy.oneQuiet rfl kR (.agg ((bv a0 :: bv a1 :: [bv a2, bv a3, bv a4, bv a5, bv a6, bv a7, bv a8, bv a9, bv a10, bv a11, bv a12, bv a13, bv a14, bv a15, bv a16, bv a17, bv a18, bv a19, bv a20, bv a21, bv a22, bv a23, bv a24, bv a25, bv a26, bv a27, bv a28, bv a29, bv a30, bv a31]) : List Value).toArray) (Quiet.load 3 g3 1 32 118 31 (.int .u8 3 :: bv a0 :: bv a1 :: [bv a2, bv a3, bv a4, bv a5, bv a6, bv a7, bv a8, bv a9, bv a10, bv a11, bv a12, bv a13, bv a14, bv a15, bv a16, bv a17, bv a18, bv a19, bv a20, bv a21, bv a22, bv a23, bv a24, bv a25, bv a26, bv a27, bv a28, bv a29, bv a30, bv a31]).toArray _ _ rfl kR kR Tryz.underlying31 rfl kR _ kR kL) ?_
      exact Sy.leafI fin (fun i => 0) kR (all_cons kR (all_cons kR (all_cons kR (all_cons kR (all_cons kR (all_cons kR (all_cons kR (all_cons kR (all_cons kR (all_cons kR (all_cons kR (all_cons kR (all_cons kR (all_cons kR (all_cons kR (all_cons kR (all_cons kR (all_cons kR (all_cons kR (all_cons kR (all_cons kR (all_cons kR all_nil)))))))))))))))))))))) kR
  ·refine Sy.oneWrite rfl (by rfl) kR 1 g1 24 (fcs 0) (fcs (Sc.negP k)) kR (wS 0 24 (fcs (Sc.negP k)) rfl) ?_
   refine Sy.anyOf [1] kR (by decide) (Sy.each1 ?_)
   ·refine Sy.oneQuiet rfl kR (.slice (some ⟨g3, 1, none⟩) 32 32) qP ?_
    refine Sy.anyOf [2] kR (by decide) (Sy.each1 ?_)
    ·refine Sy.oneQuiet rfl kR (.pointer (some ⟨g3, 1, none⟩)) qP ?_
     refine Sy.anyOf [3] kR (by decide) (Sy.each1 ?_)
     ·refine Sy.oneQuiet rfl kR (.agg ((bv a0 :: bv a1 :: [bv a2, bv a3, bv a4, bv a5, bv a6, bv a7, bv a8, bv a9, bv a10, bv a11, bv a12, bv a13, bv a14, bv a15, bv a16, bv a17, bv a18, bv a19, bv a20, bv a21, bv a22, bv a23, bv a24, bv a25, bv a26, bv a27, bv a28, bv a29, bv a30, bv a31]) : List Value).toArray) (Quiet.load 3 g3 1 32 118 31 (.int .u8 3 :: bv a0 :: bv a1 :: [bv a2, bv a3, bv a4, bv a5, bv a6, bv a7, bv a8, bv a9, bv a10, bv a11, bv a12, bv a13, bv a14, bv a15, bv a16, bv a17, bv a18, bv a19, bv a20, bv a21, bv a22, bv a23, bv a24, bv a25, bv a26, bv a27, bv a28, bv a29, bv a30, bv a31]).toArray _ _ rfl kR kR Tryz.underlying31 rfl kR _ kR kL) ?_
      exact Sy.leafI fin (fun i => 0) kR (all_cons kR (all_cons kR (all_cons kR (all_cons kR (all_cons kR (all_cons kR (all_cons kR (all_cons kR (all_cons kR (all_cons kR (all_cons kR (all_cons kR (all_cons kR (all_cons kR (all_cons kR (all_cons kR (all_cons kR (all_cons kR (all_cons kR (all_cons kR (all_cons kR (all_cons kR all_nil)))))))))))))))))))))) kR
theorem even_any (w : World) (k : Nat) (hk : k < K4) : Calls Tryz.prog 39 #[fv k] w (Gets w (.tuple #[fv (evD k), .agg ((evX (evP k)).map bv).toArray, .bool (evP k).isSome])) := by
 have ho := evP_on k
 unfold evD
 rcases h : evP k with _ | ⟨u, v⟩
 ·exact even_none w k hk h
 ·rw [h] at ho
  rcases Nat.mod_two_eq_zero_or_one v.val with hv | hv
  ·have q := even_2 w k hk u v h ho hv
   show Calls _ _ _ _ (Gets w (.tuple #[fv (if v.val % 2 = 1 then Sc.negP k else k), _, _]))
   rw [if_neg (by omega)]
   exact q
  ·have q := even_3 w k hk u v h ho hv
   show Calls _ _ _ _ (Gets w (.tuple #[fv (if v.val % 2 = 1 then Sc.negP k else k), _, _]))
   rw [if_pos (by omega)]
   exact q
theorem public_any (w : World) (k : Nat) (hk : k < K4) : Calls Tryz.prog 14 #[fv k] w (Gets w (.tuple #[.agg ((evX (evP k)).map bv).toArray, .bool (evP k).isSome])) := by
 refine Sy.enter (args := [fv k]) Tryz.func14 rfl kL ?_
 refine sC ?_
 refine sM 24 (fcs k) (fun g0 => ?_)
 refine sM 31 (Zl 32).toArray (fun g1 => ?_)
 refine sP (.bool false) ?_
 refine sA ?_
 refine sS (fv k) (qL 0 g0 0 4 24 24 (fcs k) rfl Tryz.underlying24) <| sS (.tuple #[fv (evD k), .agg ((evX (evP k)).map bv).toArray, .bool ((evP k).isSome)]) (qF 39 #[fv k] (fun w => even_any w k hk)) <| sP (.tuple #[fv (evD k), .agg ((evX (evP k)).map bv).toArray, .bool ((evP k).isSome)]) <| sP (fv (evD k)) <| sP (.agg ((evX (evP k)).map bv).toArray) <| sP (.bool ((evP k).isSome)) ?_
 refine sM 24 (fcs 0) (fun g2 => ?_)
 refine sM 31 (Zl 32).toArray (fun g3 => ?_)
 refine sW 2 g2 24 (fcs 0) (fcs (evD k)) (wS 0 24 (fcs (evD k)) rfl) <| sW 3 g3 31 (Zl 32).toArray ((evX (evP k)).map bv).toArray (Writes.store 0 31 ((evX (evP k)).map bv).toArray _ _ rfl kR kR (by rw [key_sz (evX (evP k)) (evX_length _)]; kernel_rfl) (by rw [key_sz (evX (evP k)) (evX_length _)]; exact Nat.le_of_ble_eq_true kR) (key_one _) (key_set _ _ (by rw [(evX_length _)]; kernel_rfl))) <| sP (.bool ((evP k).isSome)) ?_
 refine sA ?_
 refine sS (.agg ((evX (evP k)).map bv).toArray) (Quiet.load 3 g3 0 32 31 31 ((evX (evP k)).map bv).toArray _ _ rfl kR kR Tryz.underlying31 rfl kR _ (key_whole (evX (evP k)) (evX_length _)) (key_size (evX (evP k)) (evX_length _))) <| sP (.bool ((evP k).isSome)) <| sW 1 g1 31 (Zl 32).toArray ((evX (evP k)).map bv).toArray (Writes.store 0 31 ((evX (evP k)).map bv).toArray _ _ rfl kR kR (by rw [key_sz (evX (evP k)) (evX_length _)]; kernel_rfl) (by rw [key_sz (evX (evP k)) (evX_length _)]; exact Nat.le_of_ble_eq_true kR) (key_one _) (key_set _ _ (by rw [(evX_length _)]; kernel_rfl))) <| sP (.bool ((evP k).isSome)) ?_
 refine sG <| Sy.ret ?_
 exact Sy.ret2 (v := .agg ((evX (evP k)).map bv).toArray) (u := .bool ((evP k).isSome)) rfl (.inl (Res.cell (ty' := 31) g1 1 ((evX (evP k)).map bv).toArray _ kR kR Tryz.underlying31 rfl (by rw [key_sz (evX (evP k)) (evX_length _)]; kernel_rfl) kR)) (.inl (show _ = _ by kernel_rfl))
end Go.Proofs.YtbofhoonlmikcaaGreatDoor.Cu

end
section
namespace Go.Proofs.YtbofhoonlmikcaaGreatDoor.Sc
open Go.RowKit Go.Lib

theorem run_equalIn_fv (W : World) (n m : Nat) (hn : n < 115792089237316195423570985008687907853269984665640564039457584007913129639936) (hm : m < 115792089237316195423570985008687907853269984665640564039457584007913129639936) : (Op.equalIn 10000 24 (fv n) (fv m)).run Tryz.prog W = .ok (decide (n = m)) W := by
 rw [fv_wl, fv_wl]
 have h := run_equalIn_words W 9998 24 22 4 Tryz.underlying24 Tryz.underlying22 (fun W => by kernel_rfl) (wl n) (wl m) rfl rfl
 rw [wl_beq hn hm] at h
 exact h
theorem run_neq_fv (W : World) (n m : Nat) (hn : n < 115792089237316195423570985008687907853269984665640564039457584007913129639936) (hm : m < 115792089237316195423570985008687907853269984665640564039457584007913129639936) : (binOp .neq 24 (fv n) (fv m)).run Tryz.prog W = .ok (.bool (decide (n ≠ m))) W := by
 have h := run_equalIn_fv W n m hn hm
 rw [fv_wl, fv_wl] at h ⊢
 rw [run_neq_struct, h]
 by_cases e : n = m <;> simp [e]

theorem run_eqGuard_fv (op : BinOp) (x y : Operand) (n m : Nat) (W : World) : (eqGuard op 24 x y (fv n) (fv m)).run Tryz.prog W = .ok () W := by
 rw [fv_fcs, fv_fcs]
 go_simp

end Go.Proofs.YtbofhoonlmikcaaGreatDoor.Sc

end
section
namespace Go.Proofs.YtbofhoonlmikcaaGreatDoor.Sc
open Go.RowKit Go.Lib

set_option maxHeartbeats 8000000 in
set_option maxRecDepth 100000 in
theorem words_any (w : World) (l : List UInt8) (hl : l.length = 32) : Calls Tryz.prog 142 #[.agg (l.map bv).toArray] w fun e w' => e = .returned (fv (valB l)) ∧ Below w.heap.size w w' := by
 have HL := Lib.hid hl
 clear hl
 go_enter Tryz.func142, Tryz.ntmps142
 go_wp2_with (first | ((with_reducible refine here_load (d := some 6) ?_); refine wpList_load_blk rfl _ _ rfl w.heap.size rfl _ _ _ (((Blk.new w _ _).alloc _).alloc _) Tryz.underlying30 rfl (b32_info HL.out) ?_))
 go_loopw [7] (fun i wr => ∃ k y0 y1 y2 y3 : Nat, k ≤ 32 ∧ i = .int .i64 (k : Int) ∧ Hid (y0 = wdB l k 0 ∧ y1 = wdB l k 1 ∧ y2 = wdB l k 2 ∧ y3 = wdB l k 3) ∧ Below w.heap.size w wr ∧ Blk wr (w.heap.size + 2) 24 #[.int .u64 (y3 : Int), .int .u64 (y2 : Int), .int .u64 (y1 : Int), .int .u64 (y0 : Int)] ∧ Blk wr (w.heap.size + 1) 24 #[.int .u64 0, .int .u64 0, .int .u64 0, .int .u64 0]) (fun i _ => 32 - (intOf i).toNat)
 case atStart => exact ⟨0, 0, 0, 0, 0, by omega, rfl, Lib.hid ⟨(wdB_zero l 0).symm, (wdB_zero l 1).symm, (wdB_zero l 2).symm, (wdB_zero l 3).symm⟩, below_alloc3 w _ _ _, blk_new3 w _ _ _ _, (blk_new2 w _ _ _).alloc _⟩
 case round =>
  obtain ⟨k, y0, y1, y2, y3, hk, rfl, HY, hb, hP, hR⟩ := hrel
  have q3 : wr.cell? ⟨w.heap.size + 1 + 1, 0, none⟩ = some (.int .u64 (y3 : Int)) := hP.cell 0
  have q2 : wr.cell? ⟨w.heap.size + 1 + 1, 1, none⟩ = some (.int .u64 (y2 : Int)) := hP.cell 1
  have q1 : wr.cell? ⟨w.heap.size + 1 + 1, 2, none⟩ = some (.int .u64 (y1 : Int)) := hP.cell 2
  have q0 : wr.cell? ⟨w.heap.size + 1 + 1, 3, none⟩ = some (.int .u64 (y0 : Int)) := hP.cell 3
  have ff : ∀ j, wr.frozen? ⟨w.heap.size + 1 + 1, j, none⟩ = false := fun j => hP.frozen j
  by_cases hlt : k < 32
  ·obtain ⟨c, hc⟩ : ∃ c, l[k]? = some c := ⟨l[k]'(by rw [HL.out]; exact hlt), List.getElem?_eq_getElem _⟩
   have HC := Lib.hid hc
   obtain ⟨m, hm⟩ : ∃ m, m = c.toNat := ⟨_, rfl⟩
   have hm8 : m < 256 := by rw [hm]; exact c.toNat_lt
   have hI : ∀ W, (Instr.index 30 (.agg (l.map bv).toArray) (.int .i64 (k : Int))).run Tryz.prog W = .ok (.int .u8 (m : Int)) W := fun W => by
    rw [run_index_b32 W l k c hc hlt, hm]; rfl
   have HM := Lib.hid hm
   have HR := Lib.hid (And.intro hb (And.intro hP hR))
   clear hb hP hR hc hk hm
   rcases (show k = 0 ∨ k = 1 ∨ k = 2 ∨ k = 3 ∨ k = 4 ∨ k = 5 ∨ k = 6 ∨ k = 7 ∨ k = 8 ∨ k = 9 ∨ k = 10 ∨ k = 11 ∨ k = 12 ∨ k = 13 ∨ k = 14 ∨ k = 15 ∨ k = 16 ∨ k = 17 ∨ k = 18 ∨ k = 19 ∨ k = 20 ∨ k = 21 ∨ k = 22 ∨ k = 23 ∨ k = 24 ∨ k = 25 ∨ k = 26 ∨ k = 27 ∨ k = 28 ∨ k = 29 ∨ k = 30 ∨ k = 31 by omega) with rfl | rfl | rfl | rfl | rfl | rfl | rfl | rfl | rfl | rfl | rfl | rfl | rfl | rfl | rfl | rfl | rfl | rfl | rfl | rfl | rfl | rfl | rfl | rfl | rfl | rfl | rfl | rfl | rfl | rfl | rfl | rfl
   all_goals
    simp only [Int.cast_ofNat_Int] at hI
   all_goals
    first
    | ((have hy : y0 < 72057594037927936 := by rw [HY.out.1]; exact wdB_lt l _ 0 (by decide)); (have ho := or_add y0 m hy hm8); go_wp2; (refine ⟨⟨_, y0 * 256 + m, y1, y2, y3, by decide, rfl, Lib.hid ⟨by rw [HY.out.1, HM.out]; exact (wdB_step l _ 0 c HC.out (by decide)).symm, by rw [HY.out.2.1]; exact (wdB_same l _ 1 (by decide)).symm, by rw [HY.out.2.2.1]; exact (wdB_same l _ 2 (by decide)).symm, by rw [HY.out.2.2.2]; exact (wdB_same l _ 3 (by decide)).symm⟩, HR.out.1.setCell (by show w.heap.size ≤ w.heap.size + 1 + 1; omega) _, Blk.eq_ (HR.out.2.1.set_ 3 _) (by rw [show ((y0 * 256 + m : Nat) : Int) = (y0 : Int) * 256 + (m : Int) by omega]; rfl), HR.out.2.2.far (by show w.heap.size + 1 ≠ w.heap.size + 1 + 1; omega) _⟩, by simp [intOf]⟩))
    | ((have hy : y1 < 72057594037927936 := by rw [HY.out.2.1]; exact wdB_lt l _ 1 (by decide)); (have ho := or_add y1 m hy hm8); go_wp2; (refine ⟨⟨_, y0, y1 * 256 + m, y2, y3, by decide, rfl, Lib.hid ⟨by rw [HY.out.1]; exact (wdB_same l _ 0 (by decide)).symm, by rw [HY.out.2.1, HM.out]; exact (wdB_step l _ 1 c HC.out (by decide)).symm, by rw [HY.out.2.2.1]; exact (wdB_same l _ 2 (by decide)).symm, by rw [HY.out.2.2.2]; exact (wdB_same l _ 3 (by decide)).symm⟩, HR.out.1.setCell (by show w.heap.size ≤ w.heap.size + 1 + 1; omega) _, Blk.eq_ (HR.out.2.1.set_ 2 _) (by rw [show ((y1 * 256 + m : Nat) : Int) = (y1 : Int) * 256 + (m : Int) by omega]; rfl), HR.out.2.2.far (by show w.heap.size + 1 ≠ w.heap.size + 1 + 1; omega) _⟩, by simp [intOf]⟩))
    | ((have hy : y2 < 72057594037927936 := by rw [HY.out.2.2.1]; exact wdB_lt l _ 2 (by decide)); (have ho := or_add y2 m hy hm8); go_wp2; (refine ⟨⟨_, y0, y1, y2 * 256 + m, y3, by decide, rfl, Lib.hid ⟨by rw [HY.out.1]; exact (wdB_same l _ 0 (by decide)).symm, by rw [HY.out.2.1]; exact (wdB_same l _ 1 (by decide)).symm, by rw [HY.out.2.2.1, HM.out]; exact (wdB_step l _ 2 c HC.out (by decide)).symm, by rw [HY.out.2.2.2]; exact (wdB_same l _ 3 (by decide)).symm⟩, HR.out.1.setCell (by show w.heap.size ≤ w.heap.size + 1 + 1; omega) _, Blk.eq_ (HR.out.2.1.set_ 1 _) (by rw [show ((y2 * 256 + m : Nat) : Int) = (y2 : Int) * 256 + (m : Int) by omega]; rfl), HR.out.2.2.far (by show w.heap.size + 1 ≠ w.heap.size + 1 + 1; omega) _⟩, by simp [intOf]⟩))
    | ((have hy : y3 < 72057594037927936 := by rw [HY.out.2.2.2]; exact wdB_lt l _ 3 (by decide)); (have ho := or_add y3 m hy hm8); go_wp2; (refine ⟨⟨_, y0, y1, y2, y3 * 256 + m, by decide, rfl, Lib.hid ⟨by rw [HY.out.1]; exact (wdB_same l _ 0 (by decide)).symm, by rw [HY.out.2.1]; exact (wdB_same l _ 1 (by decide)).symm, by rw [HY.out.2.2.1]; exact (wdB_same l _ 2 (by decide)).symm, by rw [HY.out.2.2.2, HM.out]; exact (wdB_step l _ 3 c HC.out (by decide)).symm⟩, HR.out.1.setCell (by show w.heap.size ≤ w.heap.size + 1 + 1; omega) _, Blk.eq_ (HR.out.2.1.set_ 0 _) (by rw [show ((y3 * 256 + m : Nat) : Int) = (y3 : Int) * 256 + (m : Int) by omega]; rfl), HR.out.2.2.far (by show w.heap.size + 1 ≠ w.heap.size + 1 + 1; omega) _⟩, by simp [intOf]⟩))
  ·have p1 : ¬ (k : Int) < 32 := by omega
   obtain rfl : k = 32 := by omega
   have b0 : y0 < 18446744073709551616 := by rw [HY.out.1]; exact wdB_lt8 l _ _
   have b1 : y1 < 18446744073709551616 := by rw [HY.out.2.1]; exact wdB_lt8 l _ _
   have b2 : y2 < 18446744073709551616 := by rw [HY.out.2.2.1]; exact wdB_lt8 l _ _
   have b3 : y3 < 18446744073709551616 := by rw [HY.out.2.2.2]; exact wdB_lt8 l _ _
   obtain ⟨z, hz⟩ : ∃ z, z = y3 + 18446744073709551616 * y2 + 340282366920938463463374607431768211456 * y1 + 6277101735386680763835789423207666416102355444464034512896 * y0 := ⟨_, rfl⟩
   have fz := fv_mk y3 y2 y1 y0 b3 b2 b1 b0
   rw [← hz] at fz
   have hzv : valB l = z := by rw [wdB_all l HL.out, hz, HY.out.1, HY.out.2.1, HY.out.2.2.1, HY.out.2.2.2]
   have HZ := Lib.hid hzv
   have FZ := Lib.hid fz.symm
   have HP := Lib.hid hP
   have HR := Lib.hid hR
   clear HY b0 b1 b2 b3 hz fz hzv q0 q1 q2 q3 ff hP hR
   go_wp2_with (first | ((with_reducible refine here_load (d := some 25) ?_); refine wpList_load_fv rfl _ _ rfl (w.heap.size + 2) rfl (z) _ _ _ (HP.out) (FZ.out) Tryz.underlying24 rfl (by kernel_rfl) ?_) | ((with_reducible refine here_store ?_); refine wpList_store_blk rfl _ _ _ rfl (w.heap.size + 1) (fcs (z)) rfl rfl _ _ (HR.out) (by kernel_rfl) (by rfl) (fcs_one _) ?_; intro vz hLz hqz hKz))
   exact bodyPost_ret (results_cell_row rfl _ _ (w.heap.size + 1) _ _ (0, 0) _ rfl hLz Tryz.underlying24 rfl (by kernel_rfl)) rfl ⟨by rw [HZ.out]; rfl, hb.trans (hqz _ (by omega))⟩
def readS (l : List UInt8) : Nat × Bool := if valB l < pM then (valB l, true) else (0, false)
set_option maxHeartbeats 2000000 in
set_option maxRecDepth 100000 in
theorem read_any (w : World) (l : List UInt8) (hl : l.length = 32) : Calls Tryz.prog 106 #[.agg (l.map bv).toArray] w fun e w' => e = .returned (.tuple #[fv (readS l).1, .bool (readS l).2]) ∧ Below w.heap.size w w' := by
 obtain ⟨z, hz⟩ : ∃ z, z = valB l := ⟨_, rfl⟩
 have hzl : z < 115792089237316195423570985008687907853269984665640564039457584007913129639936 := by rw [hz]; exact valB_lt32 l hl
 obtain ⟨n, hn⟩ : ∃ n, n = z % pM := ⟨_, rfl⟩
 have hnl : n < 115792089237316195423570985008687907853269984665640564039457584007913129639936 := by rw [hn]; exact mod_lt z
 obtain ⟨b, hbd⟩ : ∃ b, b = decide (n ≠ z) := ⟨_, rfl⟩
 have eb : ∀ W, (binOp .neq 24 (fv n) (fv z)).run Tryz.prog W = .ok (.bool b) W := fun W => by rw [hbd]; exact run_neq_fv W n z hnl hzl
 have cw : ∀ w, Calls Tryz.prog 142 #[.agg (l.map bv).toArray] w fun e w' => e = .returned (fv z) ∧ Below w.heap.size w w' := by
  intro w; rw [hz]; exact words_any w l hl
 have cn : ∀ w, Calls Tryz.prog 132 #[fv z] w fun e w' => e = .returned (fv n) ∧ Below w.heap.size w w' := by
  intro w; rw [hn]; exact norm_any w z hzl
 have hS : readS l = if b = true then (0, false) else (z, true) := by
  unfold readS
  rw [← hz, hbd, hn]
  by_cases h : z < pM
  ·rw [if_pos h, Nat.mod_eq_of_lt h]; simp
  ·have h2 : z % pM ≠ z := fun e => h (by rw [← e]; exact mod_lt_p z)
   rw [if_neg h]; simp [h2]
 have HS := Lib.hid hS
 have HL := Lib.hid hl
 clear hl hz hzl hn hnl hbd hS
 go_enter Tryz.func106, Tryz.ntmps106
 go_wp2_with (first | ((with_reducible refine here_load (d := some 5) ?_); refine wpList_load_blk rfl _ _ rfl w.heap.size rfl _ _ _ ((Blk.new w _ _).alloc _) Tryz.underlying30 rfl (b32_info HL.out) ?_))
 refine (cw _).mono ?_
 rintro e w1 ⟨rfl, k1⟩
 have BR := Gr.blk k1 (blk_new2 w _ _ _)
 have sz := BR.lt
 have hB := Below.gr (below_alloc2 w _ _) k1
 clear k1 cw
 go_wp2_with (first | ((with_reducible refine here_store ?_); refine wpList_store_blk rfl _ _ _ rfl (w1.heap.size) (fcs (z)) rfl rfl _ _ (Blk.new w1 _ _) (by kernel_rfl) (by rfl) (fcs_one _) ?_; intro w2 hL2 hq2 hK2; have CR := hK2 _ (by omega) _ _ (BR.alloc _); have hB2 := (hB.alloc (by omega) _).trans (hq2 _ (by omega))))
 refine wp_region_G (fun _ => false) (by kernel_rfl) ?_
 try simp only [Act.put]
 refine tkw 0 rfl (YieldsG.loadF (by rfl) _ _ rfl (w1.heap.size) rfl (z) _ _ (hL2) (fv_fcs _) Tryz.underlying24 rfl (by kernel_rfl)) ?_
 try simp only [Act.put, aA, aZ, aS]
 refine tkw 1 rfl (YieldsG.call (v := fv n) (by rfl) 132 _ (fun w9 => by go_simp; try (first | with_reducible rfl | rfl)) (fun w9 h9 => cn w9)) ?_
 try simp only [Act.put, aA, aZ, aS]
 refine tkw 2 rfl (YieldsG.loadF (by rfl) _ _ rfl (w1.heap.size) rfl (z) _ _ (hL2) (fv_fcs _) Tryz.underlying24 rfl (by kernel_rfl)) ?_
 try simp only [Act.put, aA, aZ, aS]
 refine tkw 3 rfl (YieldsG.pure (v := .bool b) (by rfl) (fun w9 h9 => by go_simp; rw [run_eqGuard_fv]; simp only [Result.andThen_ok])) ?_
 try simp only [Act.put, aA, aZ, aS]
 refine wpAnyG_done (by kernel_rfl) (fun u hu => ?_)
 have hbu := Below.gr hB2 hu
 have BRu := Gr.blk hu CR
 have BP := Gr.blk hu hL2
 clear hu hB2 CR hL2 eb cn
 cases b
 ·have HT : Hid (readS l = (z, true)) := Lib.hid (by rw [HS.out]; rfl)
  clear HS
  go_wp2_with (first | ((with_reducible refine here_load (d := some 12) ?_); refine wpList_load_fv rfl _ _ rfl (w1.heap.size) rfl (z) _ _ _ (BP) (fv_fcs _) Tryz.underlying24 rfl (by kernel_rfl) ?_) | ((with_reducible refine here_store ?_); refine wpList_store_blk rfl _ _ _ rfl (w.heap.size + 1) (fcs (z)) rfl rfl _ _ (BRu) (by kernel_rfl) (by rfl) (fcs_one _) ?_; intro vz hLz hqz hKz))
  exact bodyPost_ret (res_cell_tmp rfl _ _ (w.heap.size + 1) _ _ _ _ rfl hLz rfl Tryz.underlying24 rfl (by kernel_rfl)) rfl ⟨by rw [HT.out]; rfl, hbu.trans (hqz _ (by omega))⟩
 ·have HT : Hid (readS l = (0, false)) := Lib.hid (by rw [HS.out]; rfl)
  clear HS
  go_wp2_with (first | ((with_reducible refine here_store ?_); refine wpList_store_blk rfl _ _ _ rfl (w.heap.size + 1) _ rfl rfl _ _ (BRu) (by kernel_rfl) (by rfl) (by simp [Value.oneCell']) ?_; intro vz hLz hqz hKz))
  exact bodyPost_ret (res_cell_tmp rfl _ _ (w.heap.size + 1) _ _ _ _ rfl hLz rfl Tryz.underlying24 rfl (by kernel_rfl)) rfl ⟨by rw [HT.out]; rfl, hbu.trans (hqz _ (by omega))⟩
set_option maxHeartbeats 2000000 in
set_option maxRecDepth 100000 in
theorem reduceB_any (w : World) (l : List UInt8) (hl : l.length = 32) : Calls Tryz.prog 87 #[.agg (l.map bv).toArray] w fun e w' => e = .returned (fv (valB l % pM)) ∧ Below w.heap.size w w' := by
 obtain ⟨z, hz⟩ : ∃ z, z = valB l := ⟨_, rfl⟩
 have hzl : z < 115792089237316195423570985008687907853269984665640564039457584007913129639936 := by rw [hz]; exact valB_lt32 l hl
 obtain ⟨n, hn⟩ : ∃ n, n = z % pM := ⟨_, rfl⟩
 have cw : ∀ w, Calls Tryz.prog 142 #[.agg (l.map bv).toArray] w fun e w' => e = .returned (fv z) ∧ Below w.heap.size w w' := by
  intro w; rw [hz]; exact words_any w l hl
 have cn : ∀ w, Calls Tryz.prog 132 #[fv z] w fun e w' => e = .returned (fv n) ∧ Below w.heap.size w w' := by
  intro w; rw [hn]; exact norm_any w z hzl
 rw [← hz, ← hn]
 have HL := Lib.hid hl
 clear hl hz hzl hn
 go_enter Tryz.func87, Tryz.ntmps87
 go_wp2_with (first | ((with_reducible refine here_load (d := some 3) ?_); refine wpList_load_blk rfl _ _ rfl w.heap.size rfl _ _ _ ((Blk.new w _ _).alloc _) Tryz.underlying30 rfl (b32_info HL.out) ?_))
 refine (cw _).mono ?_
 rintro e w1 ⟨rfl, k1⟩
 go_wp2_with fail
 refine (cn _).mono ?_
 rintro e w2 ⟨rfl, k2⟩
 have BR := Gr.blk k2 (Gr.blk k1 (blk_new2 w _ _ _))
 have hB := Below.gr (Below.gr (below_alloc2 w _ _) k1) k2
 clear k1 k2 cw cn
 go_wp2_with (first | ((with_reducible refine here_store ?_); refine wpList_store_blk rfl _ _ _ rfl (w.heap.size + 1) (fcs (n)) rfl rfl _ _ (BR) (by kernel_rfl) (by rfl) (fcs_one _) ?_; intro vz hLz hqz hKz))
 exact bodyPost_ret (results_cell_row rfl _ _ (w.heap.size + 1) _ _ (0, 0) _ rfl hLz Tryz.underlying24 rfl (by kernel_rfl)) rfl ⟨rfl, hB.trans (hqz _ (by omega))⟩

end Go.Proofs.YtbofhoonlmikcaaGreatDoor.Sc

end
section
namespace Go.Proofs.YtbofhoonlmikcaaGreatDoor.Cu
open Go.RowKit Go.Proofs.YtbofhoonlmikcaaGreatDoor Go.Proofs.YtbofhoonlmikcaaGreatDoor.Sy

def auxNm : ByteArray := ⟨#[66, 73, 80, 48, 51, 52, 48, 47, 97, 117, 120]⟩
def nonceNm : ByteArray := ⟨#[66, 73, 80, 48, 51, 52, 48, 47, 110, 111, 110, 99, 101]⟩
def challengeNm : ByteArray := ⟨#[66, 73, 80, 48, 51, 52, 48, 47, 99, 104, 97, 108, 108, 101, 110, 103, 101]⟩
theorem texts_blk {w : World} {g : Nat} {t : TypeId} {ts : List Sh.Tx} (hb : Blk w g t (ts.map Sh.Tx.val).toArray) (hok : ∀ x ∈ ts, x.ok w) : Sh.Texts w (some ⟨g, 0, none⟩) ts := fun _ =>
 ⟨g, 0, rfl, hb.lt, fun j y hy => by
  rw [Nat.zero_add]
  refine ⟨(hb.cell j).trans ?_, hok y (List.mem_of_getElem? hy)⟩
  rw [List.getElem?_toArray, List.getElem?_map, hy]
  rfl⟩
theorem tag_c (w : World) (nm : ByteArray) (hnm : nm.size ≤ 1000000000) (g : Nat) (t : TypeId) (ts : List Sh.Tx) (n ct : Nat) (X : List UInt8) (hX : Sh.cat ts = X) (hn : ts.length = n) (hb : Blk w g t (ts.map Sh.Tx.val).toArray) (hok : ∀ x ∈ ts, x.ok w) (hl : X.length ≤ 1000000000) (hn2 : n ≤ 1000000000) (ht : Sh.TabAt w 1) :
  Calls Tryz.prog 86 #[.string nm, .slice (some ⟨g, 0, none⟩) n ct] w (Gets w (.agg ((Sh.taggedS nm.data.toList X).map bv).toArray)) := by
 subst hX hn
 exact Sh.tagged_any w nm _ ts ct (texts_blk hb hok) ht hnm hl hn2
theorem ok_key {w : World} {g : Nat} {t : TypeId} {l : List UInt8} (hb : Blk w g t (l.map bv).toArray) (hl : l.length = 32) : (Sh.Tx.mk (some ⟨g, 0, none⟩) l 32).ok w := ⟨Sh.Src.of_blk hb, by show l.length ≤ 32; omega, by show 32 ≤ 9223372036854775807; omega⟩
theorem val_key {g : Nat} {l : List UInt8} (hl : l.length = 32) : (Sh.Tx.mk (some ⟨g, 0, none⟩) l 32).val = .slice (some ⟨g, 0, none⟩) 32 32 := by
 unfold Sh.Tx.val
 rw [hl]
theorem ok3 {w : World} {a b c : Sh.Tx} (ha : a.ok w) (hb : b.ok w) (hc : c.ok w) : ∀ x ∈ [a, b, c], x.ok w := fun x hx => by
 simp only [List.mem_cons, List.not_mem_nil, or_false] at hx
 rcases hx with rfl | rfl | rfl <;> assumption
theorem tag3_c (w : World) (nm : ByteArray) (hnm : nm.size ≤ 1000000000) (g g1 g2 : Nat) (t t1 t2 : TypeId) (x y m : List UInt8) (A : Option Addr) (c : Nat) (hx : x.length = 32) (hy : y.length = 32) (n : Nat) (hn : m.length = n) (hm : n ≤ 999999900) (hc : n ≤ c) (hc2 : c ≤ 9223372036854775807)
  (h1 : Blk w g1 t1 (x.map bv).toArray) (h2 : Blk w g2 t2 (y.map bv).toArray) (hs : Sh.Src w A m) (hb : Blk w g t #[.slice (some ⟨g1, 0, none⟩) 32 32, .slice (some ⟨g2, 0, none⟩) 32 32, .slice A n c]) (ht : Sh.TabAt w 1) :
  Calls Tryz.prog 86 #[.string nm, .slice (some ⟨g, 0, none⟩) 3 3] w (Gets w (.agg ((Sh.taggedS nm.data.toList (x ++ y ++ m)).map bv).toArray)) := by
 subst hn
 refine tag_c w nm hnm g t [⟨some ⟨g1, 0, none⟩, x, 32⟩, ⟨some ⟨g2, 0, none⟩, y, 32⟩, ⟨A, m, c⟩] 3 3 (x ++ y ++ m) (by simp [Sh.cat]) rfl ?_ (ok3 (ok_key h1 hx) (ok_key h2 hy) ⟨hs, hc, hc2⟩) (by rw [List.length_append, List.length_append, hx, hy]; omega) (by decide) ht
 rw [List.map_cons, List.map_cons, List.map_cons, List.map_nil, val_key hx, val_key hy]
 exact hb
def chalS (x key m : List UInt8) : Nat := valB (Sh.taggedS challengeNm.data.toList (x ++ key ++ m)) % Sc.pM
theorem tagS_length (nm m : List UInt8) : (Sh.taggedS nm m).length = 32 := Sh.sum_length _
set_option maxHeartbeats 4000000 in
set_option maxRecDepth 100000 in
theorem challenge_any (w : World) (x key : List UInt8) (hx : x.length = 32) (hkey : key.length = 32) (A : Option Addr) (m : List UInt8) (n c : Nat) (hn : m.length = n) (hm : n ≤ 999999900) (hc : n ≤ c) (hc2 : c ≤ 9223372036854775807) (hs : Sh.Src w A m) (ht : Sh.TabAt w 1) : Calls Tryz.prog 52 #[.agg (x.map bv).toArray, .agg (key.map bv).toArray, .slice A n c] w (Gets w (fv (chalS x key m))) := by
 refine Sy.enter (args := [.agg (x.map bv).toArray, .agg (key.map bv).toArray, .slice A n c]) Tryz.func52 rfl kL ?_
 refine sC ?_
 refine sM 31 (x.map bv).toArray (fun g0 => ?_)
 refine sM 31 (key.map bv).toArray (fun g1 => ?_)
 refine sM 24 (fcs 0) (fun g2 => ?_)
 refine sH (fun j => j == 6) ?_
 refine sZ 0 rfl (.slice (some ⟨g0, 0, none⟩) 32 32) <| sZ 1 rfl (.slice (some ⟨g1, 0, none⟩) 32 32) <| sZ 2 rfl (.slice A n c) ?_
 refine Sy.makeD 3 rfl kR kR 25 #[.slice (some ⟨g0, 0, none⟩) 32 32, .slice (some ⟨g1, 0, none⟩) 32 32, .slice A n c] (fun g => .slice (some ⟨g, 0, none⟩) 3 3) kF (fun g3 => ?_)
 refine sD 4 rfl (.agg ((Sh.taggedS challengeNm.data.toList (x ++ key ++ m)).map bv).toArray) (qG 86 #[.string challengeNm, .slice (some ⟨g3, 0, none⟩) 3 3] (fun w hw => tag3_c w challengeNm (by decide) g3 g0 g1 _ _ _ x key m A c hx hkey n hn hm hc hc2 (hw.get (i := 0) rfl) (hw.get (i := 1) rfl) (hs.below hw.below) (hw.get (i := 3) rfl) (ht.below hw.below ht.lt))) <| sD 5 rfl (fv (valB (Sh.taggedS challengeNm.data.toList (x ++ key ++ m)) % Sc.pM)) (qF 87 #[.agg ((Sh.taggedS challengeNm.data.toList (x ++ key ++ m)).map bv).toArray] (fun w => Sc.reduceB_any w (Sh.taggedS challengeNm.data.toList (x ++ key ++ m)) (tagS_length _ _))) <| sX 6 rfl 2 g2 24 (fcs 0) (fcs (valB (Sh.taggedS challengeNm.data.toList (x ++ key ++ m)) % Sc.pM)) (wS 0 24 (fcs (valB (Sh.taggedS challengeNm.data.toList (x ++ key ++ m)) % Sc.pM)) rfl) ?_
 refine sI ?_
 refine Sy.ret ?_
 exact rC (v := fv (valB (Sh.taggedS challengeNm.data.toList (x ++ key ++ m)) % Sc.pM)) 24 g2 2 (fcs (valB (Sh.taggedS challengeNm.data.toList (x ++ key ++ m)) % Sc.pM)) rfl Tryz.underlying24
end Go.Proofs.YtbofhoonlmikcaaGreatDoor.Cu

end
section
namespace Go.Proofs.YtbofhoonlmikcaaGreatDoor.Sy
open Go.RowKit Go.Proofs.YtbofhoonlmikcaaGreatDoor

section
variable {P : Program} {w0 : Base} {n : Nat} {Q : Exit → Act → World → Prop} {F : Slots} {L : Blocks}
theorem loopIR {c : Code} (N : Nat) (I : Nat → Act → World → Prop) (h0 : ∀ a w, Fr w0.ds a n F → St w0 w L → I 0 a w)
  (hr : ∀ i, i ≤ N → ∀ a w, I i a w → c.wpIn w0.fence w0.room P (Exit.then (fun a w => i < N ∧ I (i + 1) a w) Q) a w) : wpR P w0 n c Q (N + 1) F L := fun a w ha hw => by
 have key : ∀ k i, i + k = N → ∀ a w, I i a w → Code.roundsIn w0.fence w0.room P c Q (k + 1) a w := by
  intro k
  induction k with
  | zero =>
   intro i hi a w h
   refine wpIn_mono (hr i (by omega) a w h) fun e a w hq => ?_
   cases e <;> first | exact hq | exact absurd hq.1 (by omega)
  | succ k ih =>
   intro i hi a w h
   refine wpIn_mono (hr i (by omega) a w h) fun e a w hq => ?_
   cases e <;> first | exact hq | exact ih (i + 1) (by omega) a w hq.2
 exact key N 0 (by omega) a w (h0 a w ha hw)
theorem loopXR {T : Type} {c : Code} (N : Nat) (FF : Nat → T → Slots) (LL : Nat → T → Blocks) (H : Nat → T → Prop) (x0 : T) (m : List Bool) (h0 : H 0 x0) (hF : ∀ p ∈ FF 0 x0, F.lookup p.1 = some p.2) (hL : sel L m = LL 0 x0)
  (hr : ∀ k x, k ≤ N → H k x → wpC P w0 n (Exit.then (NextX w0 n N FF LL H k) Q) (FF k x) (LL k x) c) : wpR P w0 n c Q (N + 1) F L :=
 loopIR N (fun k a w => ∃ x, H k x ∧ Fr w0.ds a n (FF k x) ∧ St w0 w (LL k x)) (fun _ _ ha hw => ⟨x0, h0, ha.all hF, hL ▸ hw.less (sel_sub L m)⟩)
  fun k hk a w ⟨x, hx, ha, hw⟩ => hr k x hk hx a w ha hw
end
theorem apd_take (l : List UInt8) (k : Nat) {n : Nat} (hl : l.length = n) (s : List Value) (hk : k < n) : ((l.take k).map bv ++ ([bv (l.getD k 0)] ++ s)).toArray.toList.take (k + 1) = (l.take (k + 1)).map bv := by
 have hlt : k < l.length := by omega
 have e : ((l.take k).map bv).length = k := by simp; omega
 rw [show ((l.take k).map bv ++ ([bv (l.getD k 0)] ++ s)).toArray.toList = (l.take k).map bv ++ ([bv (l.getD k 0)] ++ s) from rfl, List.take_append, e, List.take_of_length_le (by omega), Nat.add_sub_cancel_left, List.take_succ_eq_append_getElem hlt, List.map_append]
 congr 1
 simp [List.getD, hlt]
theorem apd_len (l : List UInt8) (k : Nat) {n : Nat} (hl : l.length = n) (hk : k < n) : ((l.take (k + 1)).map bv).length = k + 1 := by simp; omega
theorem apd_size (l : List UInt8) (k : Nat) {n : Nat} (hl : l.length = n) (s : List Value) {c : Nat} (hc : s.length + (k + 1) = c) (hk : k < n) : ((l.take k).map bv ++ ([bv (l.getD k 0)] ++ s)).toArray.size = c := by simp; omega
theorem apd_full (l : List UInt8) (k : Nat) (hl : l.length = k + 1) {s : List Value} : ((l.take k).map bv ++ ([bv (l.getD k 0)] ++ s)) = l.map bv ++ s := by
 have hlt : k < l.length := by omega
 have e : l = l.take k ++ [l.getD k 0] := by
  have h2 := List.take_succ_eq_append_getElem hlt
  rw [List.take_of_length_le (by omega)] at h2
  rw [List.getD_eq_getElem?_getD, List.getElem?_eq_getElem hlt]
  exact h2
 conv => rhs; rw [e, List.map_append, List.append_assoc]
 rfl
theorem brw_at {l : List UInt8} {n : Nat} (h : l.length = n) (sp : List Value) {k o : Nat} (hk : k < n) (ho : o = k) : ((l.map bv ++ sp).toArray)[o]? = some (bv (l.getD k 0)) := by
 subst h ho
 rw [List.getElem?_toArray, List.getElem?_append_left (by rw [List.length_map]; exact hk), List.getElem?_map, List.getD_eq_getElem?_getD, List.getElem?_eq_getElem hk]
 rfl
theorem brw_fit {l : List UInt8} {n : Nat} (h : l.length = n) (sp : List Value) {k o : Nat} (hk : k < n) (ho : o = k) : o < ((l.map bv ++ sp).toArray).size := by
 subst h ho
 simp only [List.size_toArray, List.length_append, List.length_map]
 omega
theorem brw_set {l : List UInt8} {n : Nat} (h : l.length = n) (sp : List Value) (u : UInt8) {k o : Nat} (hk : k < n) (ho : o = k) : ((l.map bv ++ sp).toArray).setIfInBounds o (bv u) = ((l.set k u).map bv ++ sp).toArray := by
 subst h ho
 rw [List.setIfInBounds_toArray, List.set_append_left _ _ (by rw [List.length_map]; exact hk), List.map_set]
def mixL (a b : List UInt8) (k : Nat) : List UInt8 := a.take k ++ b.drop k
theorem mixL_len {a b : List UInt8} {n : Nat} (ha : a.length = n) (hb : b.length = n) {k : Nat} (hk : k ≤ n) : (mixL a b k).length = n := by
 unfold mixL
 rw [List.length_append, List.length_take, List.length_drop]
 omega
theorem mixL_zero (a b : List UInt8) : mixL a b 0 = b := rfl
theorem mixL_all {a b : List UInt8} {n : Nat} (ha : a.length = n) (hb : b.length = n) : mixL a b n = a := by
 unfold mixL
 rw [List.take_of_length_le (by omega), List.drop_of_length_le (by omega), List.append_nil]
theorem mixL_get {a b : List UInt8} {n k : Nat} (ha : a.length = n) (hb : b.length = n) (hk : k < n) : (mixL a b k).getD k 0 = b.getD k 0 := by
 unfold mixL
 rw [List.getD_eq_getElem?_getD, List.getD_eq_getElem?_getD, List.getElem?_append_right (by rw [List.length_take]; omega), List.getElem?_drop, List.length_take]
 congr 2
 omega
theorem mixL_succ {a b : List UInt8} {n k : Nat} (ha : a.length = n) (hb : b.length = n) (hk : k < n) : (mixL a b k).set k (a.getD k 0) = mixL a b (k + 1) := by
 have h1 : k < a.length := by omega
 have h2 : k < b.length := by omega
 unfold mixL
 rw [List.set_append_right _ _ (by rw [List.length_take]; omega), List.length_take, show k - min k a.length = 0 by omega, List.take_succ_eq_append_getElem h1, List.drop_eq_getElem_cons h2, List.set_cons_zero, List.append_assoc, List.getD_eq_getElem?_getD, List.getElem?_eq_getElem h1]
 rfl
theorem key_sym {l : List UInt8} {n : Nat} (h : l.length = n) {k o : Nat} (hk : k < n) (ho : o = k) : ((l.map bv).toArray)[o]? = some (bv (l.getD k 0)) := by
 subst h ho
 rw [List.getElem?_toArray, List.getElem?_map, List.getD_eq_getElem?_getD, List.getElem?_eq_getElem hk]
 rfl
theorem key_fits {l : List UInt8} {n : Nat} (h : l.length = n) {k o : Nat} (hk : k < n) (ho : o = k) : o < ((l.map bv).toArray).size := by
 subst h ho
 rw [List.size_toArray, List.length_map]
 exact hk
theorem key_sets {l : List UInt8} (u : UInt8) {k o : Nat} (ho : o = k) : ((l.map bv).toArray).setIfInBounds o (bv u) = ((l.set k u).map bv).toArray := by
 subst ho
 rw [List.setIfInBounds_toArray, List.map_set]
end Go.Proofs.YtbofhoonlmikcaaGreatDoor.Sy

end
section
namespace Go.Proofs.YtbofhoonlmikcaaGreatDoor.Cu
open Go.RowKit Go.Proofs.YtbofhoonlmikcaaGreatDoor Go.Proofs.YtbofhoonlmikcaaGreatDoor.Sy

theorem xor_bv (w : World) (F : Slots) (o : Oper) (x y : Operand) (a b : UInt8) {yt : TypeId} (ho : o.op = .binOp .xor 5 x y yt) (hx : evF F x = bv a) (hy : evF F y = bv b) : (execOp (evF F) o).run Tryz.prog w = .ok (.value (bv (a ^^^ b))) w := by
 have h1 : (eqGuard .xor 5 x y (bv a) (bv b)).run Tryz.prog w = .ok () w := by
  unfold bv
  go_simp
 have h2 : (binOp .xor 5 (bv a) (bv b)).run Tryz.prog w = .ok (bv (a ^^^ b)) w := by
  have e := u8_xor_nat a.toNat b.toNat a.toNat_lt b.toNat_lt
  unfold bv
  rw [UInt8.toNat_xor]
  go_simp
 unfold execOp
 simp only [ho, hx, hy, Sem.run_bind, h1, h2, Result.andThen_ok, Sem.run_pure]
def auxM : List UInt8 := Sh.taggedS auxNm.data.toList (List.replicate 32 0)
def xorS (l m : List UInt8) : List UInt8 := List.zipWith (· ^^^ ·) l m
def nonceS (d : Nat) (key m : List UInt8) : Nat := valB (Sh.taggedS nonceNm.data.toList (xorS (bytesS (d % Sc.pM)) auxM ++ key ++ m)) % Sc.pM
theorem tag1_c (w : World) (nm : ByteArray) (hnm : nm.size ≤ 1000000000) (g g1 : Nat) (t t1 : TypeId) (x : List UInt8) (hx : x.length = 32) (h1 : Blk w g1 t1 (x.map bv).toArray) (hb : Blk w g t #[.slice (some ⟨g1, 0, none⟩) 32 32]) (ht : Sh.TabAt w 1) :
  Calls Tryz.prog 86 #[.string nm, .slice (some ⟨g, 0, none⟩) 1 1] w (Gets w (.agg ((Sh.taggedS nm.data.toList x).map bv).toArray)) := by
 refine tag_c w nm hnm g t [⟨some ⟨g1, 0, none⟩, x, 32⟩] 1 1 x (by simp [Sh.cat]) rfl ?_ (fun y hy => by rw [List.mem_singleton.1 hy]; exact ok_key h1 hx) (by rw [hx]; decide) (by decide) ht
 rw [List.map_cons, List.map_nil, val_key hx]
 exact hb
theorem xorS_len {a b : List UInt8} {n : Nat} (ha : a.length = n) (hb : b.length = n) : (xorS a b).length = n := by
 unfold xorS
 rw [List.length_zipWith, ha, hb, Nat.min_self]
theorem xorS_get {a b : List UInt8} {n k : Nat} (ha : a.length = n) (hb : b.length = n) (hk : k < n) : (xorS a b).getD k 0 = a.getD k 0 ^^^ b.getD k 0 := by
 have h1 : k < a.length := by omega
 have h2 : k < b.length := by omega
 unfold xorS
 rw [List.getD_eq_getElem?_getD, List.getD_eq_getElem?_getD, List.getD_eq_getElem?_getD, List.getElem?_zipWith, List.getElem?_eq_getElem h1, List.getElem?_eq_getElem h2]
 rfl
theorem xor_step {a b : List UInt8} {n k : Nat} (ha : a.length = n) (hb : b.length = n) (hk : k < n) : (mixL (xorS a b) a k).set k (a.getD k 0 ^^^ b.getD k 0) = mixL (xorS a b) a (k + 1) := by
 rw [← xorS_get ha hb hk]
 exact mixL_succ (xorS_len ha hb) ha hk
theorem auxM_len : auxM.length = 32 := tagS_length _ _
set_option maxHeartbeats 4000000 in
set_option maxRecDepth 100000 in
theorem nonce_any (w : World) (d : Nat) (hd : d < K4) (key : List UInt8) (hkey : key.length = 32) (A : Option Addr) (m : List UInt8) (n c : Nat) (hn : m.length = n) (hm : n ≤ 999999900) (hc : n ≤ c) (hc2 : c ≤ 9223372036854775807) (hs : Sh.Src w A m) (ht : Sh.TabAt w 1) : Calls Tryz.prog 41 #[fv d, .agg (key.map bv).toArray, .slice A n c] w (Gets w (fv (nonceS d key m))) := by
 refine Sy.enter (args := [fv d, .agg (key.map bv).toArray, .slice A n c]) Tryz.func41 rfl kL ?_
 refine sC ?_
 refine sM 24 (fcs d) (fun g0 => ?_)
 refine sM 31 (key.map bv).toArray (fun g1 => ?_)
 refine sM 24 (fcs 0) (fun g2 => ?_)
 refine sA ?_
 refine Sy.make kR 30 ((List.replicate 32 (0 : UInt8)).map bv).toArray ptr kF (fun g3 => ?_)
 refine sA ?_
 refine sP (.slice (some ⟨g3, 0, none⟩) 32 32) ?_
 refine Sy.make kR 25 #[.slice (some ⟨g3, 0, none⟩) 32 32] (fun g => .slice (some ⟨g, 0, none⟩) 1 1) kF (fun g4 => ?_)
 refine sS (.agg (auxM.map bv).toArray) (qG 86 #[.string auxNm, .slice (some ⟨g4, 0, none⟩) 1 1] (fun w hw => tag1_c w auxNm (by decide) g4 g3 _ _ (List.replicate 32 (0 : UInt8)) rfl (hw.get (i := 3) rfl) (hw.get (i := 4) rfl) (ht.below hw.below ht.lt))) ?_
 refine sM 47 (Zl 32).toArray (fun g5 => ?_)
 refine sW 5 g5 47 (Zl 32).toArray (auxM.map bv).toArray (Writes.store 0 47 (auxM.map bv).toArray _ _ rfl kR kR (by rw [key_sz auxM auxM_len]; kernel_rfl) (by rw [key_sz auxM auxM_len]; exact Nat.le_of_ble_eq_true kR) (key_one _) (key_set _ _ (by rw [auxM_len]; kernel_rfl))) ?_
 refine sA ?_
 refine sS (fv d) (qL 0 g0 0 4 24 24 (fcs d) rfl Tryz.underlying24) <| sS (.agg ((bytesS (d % Sc.pM)).map bv).toArray) (qF 82 #[fv d] (fun w => Sc.bytes_any w d hd)) ?_
 refine Sy.make kR 30 ((List.replicate 32 (0 : UInt8)).map bv).toArray ptr kF (fun g6 => ?_)
 refine Sy.write kR 6 g6 30 ((List.replicate 32 (0 : UInt8)).map bv).toArray ((bytesS (d % Sc.pM)).map bv).toArray kR (Writes.store 0 30 ((bytesS (d % Sc.pM)).map bv).toArray _ _ rfl kR kR (by rw [key_sz (bytesS (d % Sc.pM)) (bytesS_length _)]; kernel_rfl) (by rw [key_sz (bytesS (d % Sc.pM)) (bytesS_length _)]; exact Nat.le_of_ble_eq_true kR) (key_one _) (key_set _ _ (by rw [(bytesS_length _)]; kernel_rfl))) ?_
 refine sG <| Sy.seq <| sC ?_
 refine sP (.int .i64 0) ?_
 refine sG <| Sy.block ?_
 refine Sy.loopK 32 (fun k1 => [(2, .slice A n c), (4, .pointer (some ⟨g1, 0, none⟩)), (6, .pointer (some ⟨g2, 0, none⟩)), (8, .pointer (some ⟨g5, 0, none⟩)), (9, .pointer (some ⟨g6, 0, none⟩)), (16, .int .i64 ((k1 : Nat) : Int))]) (fun k1 => [(g0, 24, (fcs d)), (g1, 31, (key.map bv).toArray), (g2, 24, (fcs 0)), (g3, 30, ((List.replicate 32 (0 : UInt8)).map bv).toArray), (g4, 25, #[.slice (some ⟨g3, 0, none⟩) 32 32]), (g5, 47, (auxM.map bv).toArray), (g6, 30, ((mixL (xorS (bytesS (d % Sc.pM)) auxM) (bytesS (d % Sc.pM)) k1).map bv).toArray)]) [true, true, true, true, true, true, true] (M := [(g0, 24, (fcs d)), (g1, 31, (key.map bv).toArray), (g2, 24, (fcs 0)), (g3, 30, ((List.replicate 32 (0 : UInt8)).map bv).toArray), (g4, 25, #[.slice (some ⟨g3, 0, none⟩) 32 32]), (g5, 47, (auxM.map bv).toArray), (g6, 30, ((bytesS (d % Sc.pM)).map bv).toArray)]) (all_cons kR (all_cons kR (all_cons kR (all_cons kR (all_cons kR (all_cons kR all_nil)))))) kR (bcons rfl (bcons rfl (bcons rfl (bcons rfl (bcons rfl (bcons rfl (bcons rfl rfl))))))) (fun k1 hk1 => ?_)
 refine sC ?_
 obtain ⟨b1, hb1⟩ : ∃ z : Bool, z = decide (k1 < 32) := ⟨_, rfl⟩
 refine sS (.bool b1) (Quiet.pure (exec_int .lss _ _ _ .i64 _ _ _ rfl rfl rfl (int_lss _ _ _ _ _ (by rw [hb1]; exact decide_eq_decide.2 (by omega))))) ?_
 refine sG <| Sy.seq ?_
 cases b1
 ·have lb1 : ¬ (k1 < 32) := of_decide_eq_false hb1.symm
  refine sU <| Sy.exit <| Sy.then_exit <| Sy.then_exit ?_
  obtain rfl : k1 = 32 := by omega
  refine Sy.in_exit ?_
  refine sR (fun j => j == 6) ?_
  refine sZ 0 rfl (.slice (some ⟨g6, 0, none⟩) 32 32) <| sZ 1 rfl (.slice (some ⟨g1, 0, none⟩) 32 32) <| sZ 2 rfl (.slice A n c) ?_
  refine Sy.makeD 3 rfl kR kR 25 #[.slice (some ⟨g6, 0, none⟩) 32 32, .slice (some ⟨g1, 0, none⟩) 32 32, .slice A n c] (fun g => .slice (some ⟨g, 0, none⟩) 3 3) kF (fun g7 => ?_)
  refine sD 4 rfl (.agg ((Sh.taggedS nonceNm.data.toList ((mixL (xorS (bytesS (d % Sc.pM)) auxM) (bytesS (d % Sc.pM)) 32) ++ key ++ m)).map bv).toArray) (qG 86 #[.string nonceNm, .slice (some ⟨g7, 0, none⟩) 3 3] (fun w hw => tag3_c w nonceNm (by decide) g7 g6 g1 _ _ _ (mixL (xorS (bytesS (d % Sc.pM)) auxM) (bytesS (d % Sc.pM)) 32) key m A c (mixL_len (xorS_len (bytesS_length _) auxM_len) (bytesS_length _) (by omega)) hkey n hn hm hc hc2 (hw.get (i := 6) rfl) (hw.get (i := 1) rfl) (hs.below hw.below) (hw.get (i := 7) rfl) (ht.below hw.below ht.lt))) <| sD 5 rfl (fv (valB (Sh.taggedS nonceNm.data.toList ((mixL (xorS (bytesS (d % Sc.pM)) auxM) (bytesS (d % Sc.pM)) 32) ++ key ++ m)) % Sc.pM)) (qF 87 #[.agg ((Sh.taggedS nonceNm.data.toList ((mixL (xorS (bytesS (d % Sc.pM)) auxM) (bytesS (d % Sc.pM)) 32) ++ key ++ m)).map bv).toArray] (fun w => Sc.reduceB_any w (Sh.taggedS nonceNm.data.toList ((mixL (xorS (bytesS (d % Sc.pM)) auxM) (bytesS (d % Sc.pM)) 32) ++ key ++ m)) (tagS_length _ _))) <| sX 6 rfl 2 g2 24 (fcs 0) (fcs (valB (Sh.taggedS nonceNm.data.toList ((mixL (xorS (bytesS (d % Sc.pM)) auxM) (bytesS (d % Sc.pM)) 32) ++ key ++ m)) % Sc.pM)) (wS 0 24 (fcs (valB (Sh.taggedS nonceNm.data.toList ((mixL (xorS (bytesS (d % Sc.pM)) auxM) (bytesS (d % Sc.pM)) 32) ++ key ++ m)) % Sc.pM)) rfl) ?_
  refine sI ?_
  refine Sy.ret ?_
  rw [show (fv (nonceS d key m) : Value) = fv (valB (Sh.taggedS nonceNm.data.toList ((mixL (xorS (bytesS (d % Sc.pM)) auxM) (bytesS (d % Sc.pM)) 32) ++ key ++ m)) % Sc.pM) from by unfold nonceS; rw [mixL_all (xorS_len (bytesS_length _) auxM_len) (bytesS_length _)]]
  exact rC (v := fv (valB (Sh.taggedS nonceNm.data.toList ((mixL (xorS (bytesS (d % Sc.pM)) auxM) (bytesS (d % Sc.pM)) 32) ++ key ++ m)) % Sc.pM)) 24 g2 2 (fcs (valB (Sh.taggedS nonceNm.data.toList ((mixL (xorS (bytesS (d % Sc.pM)) auxM) (bytesS (d % Sc.pM)) 32) ++ key ++ m)) % Sc.pM)) rfl Tryz.underlying24
 ·have lb1 : k1 < 32 := of_decide_eq_true hb1.symm
  refine sT <| Sy.skip <| Sy.then_ <| Sy.seq <| Sy.block <| sC ?_
  refine sP (.int .i64 ((k1 : Nat) : Int)) <| sP (.int .i64 ((k1 : Nat) : Int)) ?_
  refine sG ?_
  refine Sy.regionD (fun j => j == 8) kR ?_
  refine sZ 0 rfl (.int .i64 ((k1 : Nat) : Int)) <| sD 1 rfl (.pointer (some ⟨g6, 0 + k1 * 1, none⟩)) (Quiet.pure (exec_atA 30 _ _ _ g6 0 _ k1 1 .i64 rfl rfl rfl Tryz.underlying30 kF (by omega))) <| sD 2 rfl (bv ((bytesS (d % Sc.pM)).getD k1 0)) (Quiet.cell 6 g6 (0 + k1 * 1) 30 5 ((mixL (xorS (bytesS (d % Sc.pM)) auxM) (bytesS (d % Sc.pM)) k1).map bv).toArray _ _ rfl kR kR Tryz.underlying5 rfl _ ((key_sym (mixL_len (xorS_len (bytesS_length _) auxM_len) (bytesS_length _) (by omega)) (k := k1) (by omega) (by omega)).trans (congrArg (fun z => some (bv z)) (mixL_get (xorS_len (bytesS_length _) auxM_len) (bytesS_length _) (by omega))))) <| sZ 3 rfl (.int .i64 ((k1 : Nat) : Int)) <| sD 4 rfl (.pointer (some ⟨g5, 0 + k1 * 1, none⟩)) (Quiet.pure (exec_atA 47 _ _ _ g5 0 _ k1 1 .i64 rfl rfl rfl Tryz.underlying47 kF (by omega))) <| sD 5 rfl (bv (auxM.getD k1 0)) (Quiet.cell 5 g5 (0 + k1 * 1) 47 5 (auxM.map bv).toArray _ _ rfl kR kR Tryz.underlying5 rfl _ (key_sym auxM_len (k := k1) (by omega) (by omega))) <| sD 6 rfl (bv (((bytesS (d % Sc.pM)).getD k1 0) ^^^ (auxM.getD k1 0))) (Quiet.pure (fun w => xor_bv w _ _ _ _ ((bytesS (d % Sc.pM)).getD k1 0) (auxM.getD k1 0) rfl rfl rfl)) <| sD 7 rfl (.pointer (some ⟨g6, 0 + k1 * 1, none⟩)) (Quiet.pure (exec_atA 30 _ _ _ g6 0 _ k1 1 .i64 rfl rfl rfl Tryz.underlying30 kF (by omega))) ?_
  refine Sy.writeD 8 rfl kR (by rfl) kR 6 g6 30 ((mixL (xorS (bytesS (d % Sc.pM)) auxM) (bytesS (d % Sc.pM)) k1).map bv).toArray (((mixL (xorS (bytesS (d % Sc.pM)) auxM) (bytesS (d % Sc.pM)) k1).set k1 (((bytesS (d % Sc.pM)).getD k1 0) ^^^ (auxM.getD k1 0))).map bv).toArray kR (Writes.one (0 + k1 * 1) 5 (bv (((bytesS (d % Sc.pM)).getD k1 0) ^^^ (auxM.getD k1 0))) _ _ rfl kR kR kR rfl rfl (key_fits (mixL_len (xorS_len (bytesS_length _) auxM_len) (bytesS_length _) (by omega)) (k := k1) (by omega) (by omega)) (key_sets _ (by omega))) ?_
  refine sE ?_
  refine Sy.in_ <| Sy.then_ <| Sy.region ?_
  refine sS (.int .i64 ((k1 + 1 : Nat) : Int)) (Quiet.pure (exec_int .add _ _ _ .i64 _ _ _ rfl rfl rfl (int_add _ _ _ _ _ ((wrap_i64 (by omega) (by omega)).trans (by omega))))) <| sP (.int .i64 ((k1 + 1 : Nat) : Int)) ?_
  refine Sy.nil ?_
  exact Sy.againK [true, true, true, true, true, true, true] (M := [(g0, 24, (fcs d)), (g1, 31, (key.map bv).toArray), (g2, 24, (fcs 0)), (g3, 30, ((List.replicate 32 (0 : UInt8)).map bv).toArray), (g4, 25, #[.slice (some ⟨g3, 0, none⟩) 32 32]), (g5, 47, (auxM.map bv).toArray), (g6, 30, (((mixL (xorS (bytesS (d % Sc.pM)) auxM) (bytesS (d % Sc.pM)) k1).set k1 (((bytesS (d % Sc.pM)).getD k1 0) ^^^ (auxM.getD k1 0))).map bv).toArray)]) (by omega) (all_cons kR (all_cons kR (all_cons kR (all_cons kR (all_cons kR (all_cons kR all_nil)))))) kR (bcons rfl (bcons rfl (bcons rfl (bcons rfl (bcons rfl (bcons rfl (bcons (beq (congrArg (fun l : List UInt8 => (l.map bv).toArray) (xor_step (bytesS_length _) auxM_len (by omega)))) rfl)))))))
end Go.Proofs.YtbofhoonlmikcaaGreatDoor.Cu

end
