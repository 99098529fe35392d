/-
  Texts of ours, put together: EcW, CrvR, SymF, SymG, CrvS, CrvT, CrvU, ScRefN, CrvV, CrvW, CrvX, PLiftL, PLift3, PLift4, ScNum, EcN, ComM, ScBase, ScOps, ScEq, CrvF, CrvG, EqB, CurveAlive, ComV, CurveSumsL, ComD, RefNumber, SymX, CrvE, CrvH, CurveBackL, GenM, GenP, GenR, ScFold.
-/
import Derived.Test.YtbofhoonlmikcaaGreatDoorBU4
set_option linter.unusedVariables false
set_option linter.unusedSimpArgs false
section
namespace Go.Proofs.YtbofhoonlmikcaaGreatDoor.Ec
variable {n : Nat} [NeZero n] {inv : Fin n → Fin n} {α : Type}

def sumF (inv : Fin n → Fin n) (f : α → Pt n) (s : Pt n) : List α → Pt n
  | [] => s
  | x :: l => sumF inv f (add inv s (f x)) l
def sumL (inv : Fin n → Fin n) (f : α → Pt n) (l : List α) : Pt n := sumF inv f none l
theorem On.sumF (H : Fld n inv) {f : α → Pt n} : ∀ (l : List α) {s : Pt n}, On s → (∀ x ∈ l, On (f x)) → On (Ec.sumF inv f s l)
  | [], _, hs, _ => hs
  | x :: l, _, hs, hf => On.sumF H l (On.add H hs (hf x (List.mem_cons_self ..))) fun y hy => hf y (List.mem_cons_of_mem _ hy)
theorem sumF_start (H : Fld n inv) {f : α → Pt n} : ∀ (l : List α) {s t : Pt n}, On s → On t → (∀ x ∈ l, On (f x)) → sumF inv f (add inv s t) l = add inv s (sumF inv f t l)
  | [], _, _, _, _, _ => rfl
  | x :: l, s, t, hs, ht, hf => by
    have hx := hf x (List.mem_cons_self ..)
    show sumF inv f (add inv (add inv s t) (f x)) l = add inv s (sumF inv f (add inv t (f x)) l)
    rw [assoc H hs ht hx]
    exact sumF_start H l hs (On.add H ht hx) fun y hy => hf y (List.mem_cons_of_mem _ hy)
theorem sumF_is (H : Fld n inv) {f : α → Pt n} (l : List α) {s : Pt n} (hs : On s) (hf : ∀ x ∈ l, On (f x)) : sumF inv f s l = add inv s (sumL inv f l) := by
  have := sumF_start H l hs (show On none from trivial) hf
  rwa [add_zero] at this
theorem On.sumL (H : Fld n inv) {f : α → Pt n} (l : List α) (hf : ∀ x ∈ l, On (f x)) : On (Ec.sumL inv f l) := On.sumF H l trivial hf
theorem sumL_cons (H : Fld n inv) {f : α → Pt n} (x : α) (l : List α) (hf : ∀ y ∈ x :: l, On (f y)) : sumL inv f (x :: l) = add inv (f x) (sumL inv f l) := by
  show sumF inv f (add inv none (f x)) l = _
  rw [zero_add]
  exact sumF_is H l (hf x (List.mem_cons_self ..)) fun y hy => hf y (List.mem_cons_of_mem _ hy)
theorem sumL_append (H : Fld n inv) {f : α → Pt n} : ∀ (l m : List α), (∀ x ∈ l ++ m, On (f x)) → sumL inv f (l ++ m) = add inv (sumL inv f l) (sumL inv f m)
  | [], m, _ => (zero_add _).symm
  | x :: l, m, h => by
    have h1 : ∀ y ∈ l ++ m, On (f y) := fun y hy => h y (List.mem_cons_of_mem _ hy)
    have h2 : ∀ y ∈ x :: l, On (f y) := fun y hy => h y (by rcases List.mem_cons.1 hy with rfl | hy; exact List.mem_cons_self ..; exact List.mem_cons_of_mem _ (List.mem_append_left _ hy))
    rw [List.cons_append, sumL_cons H x (l ++ m) (fun y hy => h y (by rw [List.cons_append]; exact hy)), sumL_append H l m h1, sumL_cons H x l h2,
      assoc H (h x (List.mem_cons_self ..)) (On.sumL H l fun y hy => h1 y (List.mem_append_left _ hy)) (On.sumL H m fun y hy => h1 y (List.mem_append_right _ hy))]
theorem sumL_add (H : Fld n inv) {f g : α → Pt n} : ∀ (l : List α), (∀ x ∈ l, On (f x)) → (∀ x ∈ l, On (g x)) → sumL inv (fun x => add inv (f x) (g x)) l = add inv (sumL inv f l) (sumL inv g l)
  | [], _, _ => rfl
  | x :: l, hf, hg => by
    have f1 := hf x (List.mem_cons_self ..)
    have g1 := hg x (List.mem_cons_self ..)
    have hf' : ∀ y ∈ l, On (f y) := fun y hy => hf y (List.mem_cons_of_mem _ hy)
    have hg' : ∀ y ∈ l, On (g y) := fun y hy => hg y (List.mem_cons_of_mem _ hy)
    rw [sumL_cons H x l (fun y hy => On.add H (hf y hy) (hg y hy)), sumL_cons H x l hf, sumL_cons H x l hg, sumL_add H l hf' hg']
    exact add4 H f1 g1 (On.sumL H l hf') (On.sumL H l hg')
theorem sumL_nm (H : Fld n inv) {f : α → Pt n} (k : Nat) : ∀ (l : List α), (∀ x ∈ l, On (f x)) → sumL inv (fun x => nm inv k (f x)) l = nm inv k (sumL inv f l)
  | [], _ => (nm_none k).symm
  | x :: l, hf => by
    have f1 := hf x (List.mem_cons_self ..)
    have hf' : ∀ y ∈ l, On (f y) := fun y hy => hf y (List.mem_cons_of_mem _ hy)
    rw [sumL_cons H x l (fun y hy => On.nm H (hf y hy) k), sumL_cons H x l hf, sumL_nm H k l hf', nm_sum H f1 (On.sumL H l hf')]
theorem sumL_congr (H : Fld n inv) {f g : α → Pt n} : ∀ (l : List α), (∀ x ∈ l, On (f x)) → (∀ x ∈ l, f x = g x) → sumL inv f l = sumL inv g l
  | [], _, _ => rfl
  | x :: l, hf, he => by
    have hg : ∀ y ∈ x :: l, On (g y) := fun y hy => he y hy ▸ hf y hy
    rw [sumL_cons H x l hf, sumL_cons H x l hg, he x (List.mem_cons_self ..), sumL_congr H l (fun y hy => hf y (List.mem_cons_of_mem _ hy)) fun y hy => he y (List.mem_cons_of_mem _ hy)]
theorem horner (H : Fld n inv) {p : α → Pt n} (k : α → Nat) (q : Nat) (l : List α) (hp : ∀ x ∈ l, On (p x)) :
    add inv (nm inv 16 (sumL inv (fun x => nm inv (k x / (16 * q)) (p x)) l)) (sumL inv (fun x => nm inv (k x / q % 16) (p x)) l) = sumL inv (fun x => nm inv (k x / q) (p x)) l := by
  rw [← sumL_nm H 16 l fun x hx => On.nm H (hp x hx) _, ← sumL_add H l (fun x hx => On.nm H (On.nm H (hp x hx) _) _) fun x hx => On.nm H (hp x hx) _]
  refine sumL_congr H l (fun x hx => On.add H (On.nm H (On.nm H (hp x hx) _) _) (On.nm H (hp x hx) _)) fun x hx => ?_
  rw [← nm_mul H (hp x hx), ← nm_add H (hp x hx)]
  congr 1
  rw [Nat.mul_comm 16 q, ← Nat.div_div_eq_div_mul]
  omega
theorem nm_two (P : Pt n) : nm inv 2 P = add inv P P := by
  show add inv (nm inv 1 P) P = _
  rw [nm_one]
theorem bit_step (H : Fld n inv) {P : Pt n} (hP : On P) (k q : Nat) : add inv (add inv (nm inv (k / (2 * q)) P) (nm inv (k / (2 * q)) P)) (nm inv (k / q % 2) P) = nm inv (k / q) P := by
  rw [← nm_two, ← nm_mul H hP, ← nm_add H hP]
  congr 1
  rw [Nat.mul_comm 2 q, ← Nat.div_div_eq_div_mul]
  omega
end Go.Proofs.YtbofhoonlmikcaaGreatDoor.Ec

end
section
namespace Go.Proofs.YtbofhoonlmikcaaGreatDoor.Cu
open Go.RowKit Go.Proofs.YtbofhoonlmikcaaGreatDoor Go.Proofs.YtbofhoonlmikcaaGreatDoor.Sy

theorem sumF_snoc {α : Type} (f : α → Pt) : ∀ (l : List α) (s : Pt) (x : α), Ec.sumF finv f s (l ++ [x]) = Ec.add finv (Ec.sumF finv f s l) (f x)
  | [], _, _ => rfl
  | y :: l, s, x => sumF_snoc f l (Ec.add finv s (f y)) x
theorem sumL_snoc {α : Type} (f : α → Pt) (l : List α) (x : α) : Ec.sumL finv f (l ++ [x]) = Ec.add finv (Ec.sumL finv f l) (f x) := sumF_snoc f l none x
theorem sumL_none {α : Type} (f : α → Pt) : ∀ (l : List α), (∀ x ∈ l, f x = none) → Ec.sumL finv f l = none
  | [], _ => rfl
  | x :: l, h => by
    show Ec.sumF finv f (Ec.add finv none (f x)) l = none
    rw [h x (List.mem_cons_self ..), Ec.add_zero]
    exact sumL_none f l fun y hy => h y (List.mem_cons_of_mem _ hy)
theorem sumL_map {α β : Type} (f : β → Pt) (g : α → β) (l : List α) : Ec.sumL finv f (l.map g) = Ec.sumL finv (fun x => f (g x)) l := by
  have h : ∀ (l : List α) (s : Pt), Ec.sumF finv f s (l.map g) = Ec.sumF finv (fun x => f (g x)) s l := by
    intro l
    induction l with
    | nil => intro _; rfl
    | cons x l ih => intro s; exact ih _
  exact h l none

theorem dbN_rep {a : J} {P : Pt} (hP : Ec.On P) (h : Ec.Rep a P) : ∀ j, Ec.Rep (dbN a j) (Ec.nm finv (2 ^ j) P)
  | 0 => by rw [Nat.pow_zero, Ec.nm_one]; exact h
  | j + 1 => by
    rw [show 2 ^ (j + 1) = 2 ^ j + 2 ^ j by omega, Ec.nm_add fld hP]
    exact dblJ_rep (hP.nm fld _) (dbN_rep hP h j)
theorem Trm.on (t : Trm) : Ec.On t.pt := dec_on t.x t.y t.i
theorem inJ_rep (T : Nat → Trm) (i : Nat) {a : J} {s : Pt} (hs : Ec.On s) (h : Ec.Rep a s) : ∀ j, Ec.Rep (inJ T i a j) (Ec.sumF finv (fun t => Ec.nm finv (dg (T t).kn i) (T t).pt) s (List.range j))
  | 0 => h
  | j + 1 => by
    rw [List.range_succ, sumF_snoc]
    exact addJ_rep (Ec.On.sumF fld _ hs fun x _ => (T x).on.nm fld _) ((T j).on.nm fld _) (inJ_rep T i hs h j) (fewL_rep (T j).on (threeJ_rep _) _)
theorem kn_lt (t : Trm) : t.kn < 16 ^ 64 := Nat.lt_trans (Nat.mod_lt _ (by decide)) (by decide)
theorem muJ_rep (T : Nat → Trm) (n : Nat) : ∀ i, i ≤ 64 → Ec.Rep (muJ T n i) (Ec.sumL finv (fun t => Ec.nm finv ((T t).kn / 16 ^ (64 - i)) (T t).pt) (List.range n))
  | 0, _ => by
    rw [sumL_none _ _ fun x _ => by rw [Nat.sub_zero, Nat.div_eq_of_lt (kn_lt (T x))]; rfl]
    rfl
  | i + 1, hi => by
    have hS : Ec.On (Ec.sumL finv (fun t => Ec.nm finv ((T t).kn / 16 ^ (64 - i)) (T t).pt) (List.range n)) := Ec.On.sumL fld _ fun x _ => (T x).on.nm fld _
    have h1 := dbN_rep hS (muJ_rep T n i (by omega)) 4
    have h2 := inJ_rep T i (hS.nm fld _) h1 n
    rw [Ec.sumF_is fld _ (hS.nm fld _) fun x _ => (T x).on.nm fld _] at h2
    have e1 : 16 ^ (64 - i) = 16 * 16 ^ (63 - i) := by rw [show 64 - i = (63 - i) + 1 by omega, Nat.pow_succ, Nat.mul_comm]
    have h3 := Ec.horner fld (p := fun t => (T t).pt) (fun t => (T t).kn) (16 ^ (63 - i)) (List.range n) fun x _ => (T x).on
    rw [show 64 - (i + 1) = 63 - i by omega, ← h3, ← e1]
    exact h2
theorem multi_rep (T : Nat → Trm) (n : Nat) : Ec.Rep (muJ T n 64) (Ec.sumL finv (fun t => Ec.nm finv (T t).kn (T t).pt) (List.range n)) := by
  have h := muJ_rep T n 64 (Nat.le_refl _)
  simpa using h

def szC (n c : Nat) : Nat := min 32 (n - c * 32)
def chJ (T : Nat → Trm) (n : Nat) (s : J) (c : Nat) : J := addJ s (muJ (fun j => T (c * 32 + j)) (szC n c) 64)
def chL (T : Nat → Trm) (n : Nat) (l : List Nat) : J := l.foldl (chJ T n) ⟨0, 0, 0⟩
theorem chL_snoc (T : Nat → Trm) (n : Nat) (l : List Nat) (c : Nat) : chL T n (l ++ [c]) = chJ T n (chL T n l) c := by simp [chL, List.foldl_append]
theorem chL_rep (T : Nat → Trm) (n : Nat) : ∀ c, Ec.Rep (chL T n (List.range c)) (Ec.sumL finv (fun t => Ec.nm finv (T t).kn (T t).pt) (List.range (min n (c * 32))))
  | 0 => by rw [Nat.zero_mul, Nat.min_zero]; rfl
  | c + 1 => by
    have hon : ∀ l, Ec.On (Ec.sumL finv (fun t => Ec.nm finv (T t).kn (T t).pt) l) := fun l => Ec.On.sumL fld _ fun x _ => (T x).on.nm fld _
    have h1 := chL_rep T n c
    have h2 := multi_rep (fun j => T (c * 32 + j)) (szC n c)
    have h3 := addJ_rep (hon _) (Ec.On.sumL fld _ fun x _ => (T (c * 32 + x)).on.nm fld _) h1 h2
    rw [List.range_succ, chL_snoc]
    show Ec.Rep (addJ _ _) _
    have e : min n ((c + 1) * 32) = min n (c * 32) + szC n c := by unfold szC; omega
    rcases Nat.lt_or_ge (c * 32) n with hlt | hge
    · rw [e, List.range_add, Ec.sumL_append fld _ _ fun x _ => (T x).on.nm fld _, sumL_map]
      rw [show min n (c * 32) = c * 32 by omega] at h3 ⊢
      exact h3
    · have ez : szC n c = 0 := by unfold szC; omega
      rw [e, ez, Nat.add_zero]
      rw [ez] at h3
      have e0 : ∀ f : Nat → Pt, Ec.sumL finv f (List.range 0) = none := fun _ => rfl
      rw [e0, Ec.add_zero] at h3
      exact h3
theorem chL_all (T : Nat → Trm) (n : Nat) : Ec.Rep (chL T n (List.range ((n + 31) / 32))) (Ec.sumL finv (fun t => Ec.nm finv (T t).kn (T t).pt) (List.range n)) := by
  have h := chL_rep T n ((n + 31) / 32)
  rwa [show min n ((n + 31) / 32 * 32) = n by omega] at h
end Go.Proofs.YtbofhoonlmikcaaGreatDoor.Cu

end
section
namespace Go.Proofs.YtbofhoonlmikcaaGreatDoor.Sy
open Go.RowKit Go.Proofs.YtbofhoonlmikcaaGreatDoor

abbrev mark (D : Nat) : Deferred := { target := .collected D, args := #[] }
theorem St.refix {w0 : Base} {w : World} {L : Blocks} (h : St w0 w L) (ds : List Deferred) (fe : Fence) (ro : Nat) : St ⟨w0.world, w, ds, fe, ro⟩ w L := ⟨h.below, h.blk, h.apart, Nat.le_refl _, fun _ _ _ h _ => h⟩
theorem St.back {w0 : Base} {W w : World} {L L' : Blocks} (h0 : St w0 W L) {ds : List Deferred} {fe : Fence} {ro : Nat} (h : St ⟨w0.world, W, ds, fe, ro⟩ w L') (ds' : List Deferred) (fe' : Fence) (ro' : Nat) : St ⟨w0.world, w0.fz, ds', fe', ro'⟩ w L' :=
  ⟨h.below, h.blk, h.apart, Nat.le_trans h0.size h.size, fun k o hk ho hc => h.non k o hk (h0.non k o hk ho hc) hc⟩
theorem St.keeps {w0 : Base} {W w : World} {L L' : Blocks} (h0 : St w0 W L) {ds : List Deferred} {fe : Fence} {ro : Nat} (h : St ⟨w0.world, W, ds, fe, ro⟩ w L') {B : Nat} (hB : w0.world.heap.size ≤ B) : KeepsFrom B W w := ⟨h.size, fun k o hk ho hc => h.non k o (Nat.le_trans hB hk) ho hc⟩
theorem St.between {w0 : Base} {W w : World} {L L' : Blocks} (h0 : St w0 W L) {ds : List Deferred} {fe : Fence} {ro : Nat} (h : St ⟨w0.world, W, ds, fe, ro⟩ w L') : Below w0.world.heap.size W w :=
  ⟨h.below.os.trans h0.below.os.symm, h.below.tape.trans h0.below.tape.symm, h.below.output.trans h0.below.output.symm, h.size, fun k hk => (h.below.block k hk).trans (h0.below.block k hk).symm⟩
theorem St.own {w0 : Base} {X Y : World} {L : Blocks} {B : Nat} {row : Option Nat} (h : St w0 X L) (hB : w0.fz.heap.size ≤ B) (hB2 : w0.world.heap.size ≤ B) (hg : X.grownBy Y row) (hr : ∀ r, row = some r → B ≤ r ∧ ∃ o : Obj, X.heap[r]? = some o ∧ o.isCells = false) : St w0 Y L := by
  refine ⟨?_, fun g t cs hm => ⟨(h.blk g t cs hm).1, (h.blk g t cs hm).2.grown hg (fun e => ?_)⟩, h.apart, Nat.le_trans h.size hg.size, fun k o hk ho hc => ?_⟩
  · refine h.below.trans ⟨hg.os, hg.tape, hg.output, hg.size, fun k hk => hg.block k (Nat.lt_of_lt_of_le hk h.below.size) (fun e => ?_)⟩
    have := (hr k e.symm).1
    omega
  · obtain ⟨o, ho, hc⟩ := (hr g e.symm).2
    have hb := (h.blk g t cs hm).2
    unfold Blk at hb
    rw [hb] at ho
    cases ho
    cases hc
  · have h1 := h.non k o hk ho hc
    have hlt := (Array.getElem?_eq_some_iff.1 ho).1
    exact (hg.block k (Array.getElem?_eq_some_iff.1 h1).1 (fun e => by have := (hr k e.symm).1; omega)).trans h1

def KpL (n₀ : Nat) (l : Blocks) (W W' : World) : Prop := Below n₀ W W' ∧ ∀ p ∈ l, Blk W p.1 p.2.1 p.2.2 → Blk W' p.1 p.2.1 p.2.2
theorem KpL.trans {n₀ : Nat} {l : Blocks} {A B C : World} (h : KpL n₀ l A B) (k : KpL n₀ l B C) : KpL n₀ l A C := ⟨h.1.trans k.1, fun p hp hc => k.2 p hp (h.2 p hp hc)⟩
theorem KpL.put {n₀ : Nat} {l : Blocks} {W : World} {k : Nat} {o o' : Obj} (hk : n₀ ≤ k) (ho : W.heap[k]? = some o) (hc : o.isCells = false) : KpL n₀ l W (W.putObj k o') := by
  have hg := grownBy_putObj' W k o'
  refine ⟨⟨hg.os, hg.tape, hg.output, hg.size, fun j hj => World.putObj_heap_other (by omega)⟩, fun p _ hp => ?_⟩
  have hne : p.1 ≠ k := by
    rintro rfl
    unfold Blk at hp
    rw [hp] at ho
    cases ho
    cases hc
  exact (World.putObj_heap_other hne).trans hp
def roundF (F : Slots) (ps : Array Tmp) (vs : Array Value) : Slots := (ps.toList.zip vs.toList).foldl (fun F x => (x.1, x.2) :: F) F
theorem Fr.round {ds : List Deferred} {n : Nat} : ∀ (l : List (Tmp × Value)) {T : Array Value} {F : Slots}, (∀ x ∈ l, x.1 < n) → Fr ds { tmps := T, defers := ds } n F → Fr ds { tmps := l.foldl (fun t x => t.setIfInBounds x.1 x.2) T, defers := ds } n (l.foldl (fun F x => (x.1, x.2) :: F) F)
  | [], _, _, _, h => h
  | x :: l, T, F, hl, h => by
    have h2 := h.put (d := some x.1) (decide_eq_true (hl x (List.mem_cons_self ..))) x.2
    exact Fr.round l (fun y hy => hl y (List.mem_cons_of_mem _ hy)) h2

section
variable {P : Program} {w0 fz0 : World} {n : Nat} {Q : Exit → Act → World → Prop} {F : Slots} {L : Blocks}
abbrev rb (w0 fz : World) (l : Nat) : Base := ⟨w0, fz, [], Fence.wide.inRound l, 7⟩
abbrev ab (w0 fz : World) (D : Nat) : Base := ⟨w0, fz, [mark D], Fence.wide, 9⟩
def BP {α : Type} (w0 fz : World) (l : Nat) (HI : List α → Prop) (LL XR : List α → Blocks) (HX : List α → Prop) (pre : List α) : Exit → Act → World → Prop
  | .normal, _, w => HI pre ∧ St (rb w0 fz l) w (LL pre)
  | .ret, _, w => HX pre ∧ St (rb w0 fz l) w (XR pre)
  | _, _, _ => False
def AP (w0 fz : World) (l n na : Nat) (FA : List Nat → Slots) (LP : Blocks) (LA : List Nat → Blocks) : Exit → Act → World → Prop
  | .normal, a, w => ∃ gs, gs.length = na ∧ Fr [] a n (FA gs) ∧ St (rb w0 fz l) w (LP ++ LA gs)
  | _, _, _ => False
theorem rangeF {α : Type} {g : Operand} {ps : Array Tmp} {assign body : Code} (gf : Nat) (lb : Array Value) (hgi : inF F g = true) (hg : evF F g = .func (.func gf) #[] lb) (eg : ∀ args w, (callFunc gf args).run P w = .ok (.enter gf args) w)
    (encs : α → Array Value) (kl : Blocks) (S Sp : List α → Prop) (N : Nat) (hps : ∀ x, (encs x).size = ps.size) (hpn : ∀ p ∈ ps.toList, p < n)
    (G : List Nat) (HI : List α → Prop) (hI0 : HI []) (LL XR : List α → Blocks) (HX : List α → Prop) (m : List Bool) (h0 : sel L m = LL []) (hG : ∀ pre, (LL pre).map (·.1) = G)
    (hseq : ∀ w, St ⟨w0, fz0, [], Fence.wide, 9⟩ w L → ∃ wk, Below wk.heap.size wk w ∧ SeqStopsK Fence.wide 8 P gf lb encs (KpL w0.heap.size kl) S Sp N wk)
    (hkl : ∀ p ∈ kl, ∀ pre, p ∈ LL pre)
    (na : Nat) (FA : α → List Nat → Slots) (LA : α → List Nat → Blocks) (hLA : ∀ x gs, gs.length = na → (LA x gs).map (·.1) = gs)
    (hassign : ∀ l fz pre x, wpC P (rb w0 fz l) n (AP w0 fz l n na (FA x) (LL pre) (LA x)) (roundF F ps (encs x)) (LL pre) assign)
    (hbody : ∀ l fz pre x gs, gs.length = na → pre.length < N → HI pre → wpC P (rb w0 fz l) n (BP w0 fz l HI LL XR HX (pre ++ [x])) (FA x gs) (LL pre ++ LA x gs) body)
    (hdone : ∀ D fz xs, S xs → HI xs → w0.heap.size ≤ D → fz.heap[D]? = some (.deferred (some [])) → X (ab w0 fz D) n Q F (LL xs) .normal)
    (hstop : ∀ D fz pre, Sp pre → HX pre → w0.heap.size ≤ D → fz.heap[D]? = some (.deferred (some [])) → X (ab w0 fz D) n Q F (XR pre) .ret) :
    wpC P ⟨w0, fz0, [], Fence.wide, 9⟩ n Q F L (.rangeFunc g ps assign body) := by
  intro a w ha hw
  obtain ⟨wk, hbk, hsq⟩ := hseq w hw
  have hsz : fz0.heap.size ≤ w.heap.size := hw.size
  have hsz0 : w0.heap.size ≤ w.heap.size := hw.below.size
  have hz : St ⟨w0, fz0, [], Fence.wide, 9⟩ w (LL []) := h0 ▸ hw.less (sel_sub L m)
  have had : a.defers = [] := ha.1
  -- what a round hands on pays the iterator
  have hK : ∀ {W W' : World} {L1 : Blocks} {pre pre' : List α} {l : Nat}, St ⟨w0, fz0, [], Fence.wide, 9⟩ W (LL pre) → St (rb w0 W l) W' L1 → (LL pre').Sublist L1 → KpL w0.heap.size kl W W' := fun {W W' L1 pre pre' l} h1 h2 hs =>
    ⟨h1.between h2, fun p hp _ => by
      exact (h2.blk _ _ _ (hs.subset (hkl p hp pre'))).2⟩
  refine wpIn_rangeFunc_ownH (F := Fence.wide) (n := 9) rfl (by omega) (gf := gf) (lb := lb) ((ha.eval hgi).trans hg) trivial eg (encs := encs) (Kp := KpL w0.heap.size kl) (S := S) (Sp := Sp) (N := N) (w0 := wk) hsq KpL.trans
    (fun W l o o' hl ho hc _ => KpL.put (by omega) ho hc) hbk hps
    (fun pre W => HI pre ∧ St ⟨w0, fz0, [], Fence.wide, 9⟩ W (LL pre)) (fun c pre W => c = .ret ∧ HX pre ∧ St ⟨w0, fz0, [], Fence.wide, 9⟩ W (XR pre))
    (fun pre X Y row hs hg hr => ⟨hs.1, St.own hs.2 hsz hsz0 hg hr⟩) (fun c pre X Y row hs hg hr => ⟨hs.1, hs.2.1, St.own hs.2.2 hsz hsz0 hg hr⟩) ⟨hI0, hz⟩
    (fun x a' W => ∃ gs, gs.length = na ∧ Fr [] a' n (FA x gs) ∧ (∀ e ∈ LA x gs, w0.heap.size ≤ e.1 ∧ Blk W e.1 e.2.1 e.2.2) ∧ (G ++ gs).Nodup)
    (fun x a' _ X Y row hs hg hr => ?_) ?_ ?_ ?_ ?_
  · obtain ⟨gs, hl0, h1, h2, h3⟩ := hs
    refine ⟨gs, hl0, h1, fun e he => ⟨(h2 e he).1, (h2 e he).2.grown hg (fun q => ?_)⟩, h3⟩
    obtain ⟨o, ho, hc⟩ := (hr e.1 q.symm).2
    have hb := (h2 e he).2
    unfold Blk at hb
    rw [hb] at ho
    cases ho
    cases hc
  · -- the loop variables
    intro l pre x W K hI0' hk
    obtain ⟨hH, hI⟩ := hI0'
    have hfr : Fr [] { tmps := (ps.zip (encs x)).foldl (fun t (p, v) => t.setIfInBounds p v) a.tmps, defers := [] } n (roundF F ps (encs x)) := by
      have h1 : Fr [] { tmps := a.tmps, defers := [] } n F := ⟨rfl, ha.2.1, ha.2.2⟩
      have h2 := Fr.round (ps.toList.zip (encs x).toList) (fun y hy => hpn y.1 (List.of_mem_zip hy).1) h1
      have e : (ps.zip (encs x)).foldl (fun t (p, v) => t.setIfInBounds p v) a.tmps = (ps.toList.zip (encs x).toList).foldl (fun t x => t.setIfInBounds x.1 x.2) a.tmps := by
        rw [← Array.foldl_toList, Array.toList_zip]
      rw [e]
      exact h2
    refine wpIn_mono (hassign l W pre x _ W hfr (hI.refix _ _ _)) fun e a' W' hq => ?_
    cases e with
    | normal =>
      obtain ⟨gs, hl0, h1, h2⟩ := hq
      have hsub : (LL pre).Sublist (LL pre ++ LA x gs) := List.sublist_append_left _ _
      refine hk a' W' (hI.keeps h2 hsz0) (hK hI h2 hsub) ⟨hH, (hI.back h2 _ _ _).less hsub⟩ ⟨gs, hl0, h1, fun e he => h2.blk e.1 e.2.1 e.2.2 (List.mem_append_right _ he), ?_⟩
      have := h2.apart
      rwa [List.map_append, hG, hLA _ _ hl0] at this
    | _ => exact hq.elim
  · -- the body
    intro l pre x a' W hl _ hI0' ⟨gs, hl0, h1, h2, h3⟩ hlen
    obtain ⟨hH, hI⟩ := hI0'
    have hst : St (rb w0 W l) W (LL pre ++ LA x gs) := by
      refine ⟨hI.below, fun g t cs hm => ?_, ?_, Nat.le_refl _, fun _ _ _ h _ => h⟩
      · rcases List.mem_append.1 hm with hm | hm
        · exact hI.blk g t cs hm
        · exact h2 (g, t, cs) hm
      · rw [List.map_append, hG, hLA _ _ hl0]
        exact h3
    refine wpIn_mono (hbody l W pre x gs hl0 hlen hH a' W h1 hst) fun e a3 W3 hq => ?_
    cases e with
    | normal => exact ⟨hI.keeps hq.2 hsz0, hK hI hq.2 (List.Sublist.refl _), hq.1, hI.back hq.2 _ _ _⟩
    | ret => exact ⟨hI.keeps hq.2 hsz0, rfl, hq.1, hI.back hq.2 _ _ _⟩
    | _ => exact hq.elim
  · intro D xs W hD hS hI hd
    exact hdone D W xs hS hI.1 (Nat.le_trans hsz0 hD) hd _ W ⟨by simp [had], ha.2.1, ha.2.2⟩ (hI.2.refix _ _ _)
  · rintro D c pre W hD hS ⟨rfl, hx, hI⟩ hd
    exact wpIn_ret (hstop D W pre hS hx (Nat.le_trans hsz0 hD) hd _ W ⟨by simp [had], ha.2.1, ha.2.2⟩ (hI.refix _ _ _))

theorem bpN {α : Type} {l : Nat} {HI : List α → Prop} {LL XR : List α → Blocks} {HX : List α → Prop} {pre : List α} (m : List Bool) {M : Blocks} (hL : sel L m = M) (hM : M = LL pre) (hi : HI pre) : X (rb w0 fz0 l) n (BP w0 fz0 l HI LL XR HX pre) F L .normal := fun _ _ _ hw => by
  subst hL
  refine ⟨hi, ?_⟩
  rw [← hM]
  exact hw.less (sel_sub L m)
theorem bpR {α : Type} {l : Nat} {HI : List α → Prop} {LL XR : List α → Blocks} {HX : List α → Prop} {pre : List α} (m : List Bool) {M : Blocks} (hL : sel L m = M) (hM : M = XR pre) (hx : HX pre) : X (rb w0 fz0 l) n (BP w0 fz0 l HI LL XR HX pre) F L .ret := fun _ _ _ hw => by
  subst hL
  refine ⟨hx, ?_⟩
  rw [← hM]
  exact hw.less (sel_sub L m)
theorem apN {l na : Nat} {FA : List Nat → Slots} {LP : Blocks} {LA : List Nat → Blocks} (gs : List Nat) (hg : gs.length = na) (hF : ∀ p ∈ FA gs, F.lookup p.1 = some p.2) (m : List Bool) (hL : sel L m = LP ++ LA gs) : X (rb w0 fz0 l) n (AP w0 fz0 l n na FA LP LA) F L .normal := fun _ _ ha hw => ⟨gs, hg, ha.all hF, hL ▸ hw.less (sel_sub L m)⟩

def GetsN (w : World) (R : Value → Blocks → Prop) (e : Ending) (w' : World) : Prop := ∃ v M, e = .returned v ∧ R v M ∧ Below w.heap.size w w' ∧ (∀ g t cs, (g, t, cs) ∈ M → w.heap.size ≤ g ∧ Blk w' g t cs) ∧ (M.map (·.1)).Nodup
theorem St.addN {w0 : Base} {w w' : World} {L M : Blocks} (h : St w0 w L) (hg : Gr w w') (hM : ∀ g t cs, (g, t, cs) ∈ M → w.heap.size ≤ g ∧ Blk w' g t cs) (hn : (M.map (·.1)).Nodup) : St w0 w' (L ++ M) := by
  have h' := h.gr hg
  refine ⟨h'.below, fun g t cs hm => ?_, ?_, h'.size, h'.non⟩
  · rcases List.mem_append.1 hm with hm | hm
    · exact h'.blk g t cs hm
    · exact ⟨Nat.le_trans h.below.size (hM g t cs hm).1, (hM g t cs hm).2⟩
  · rw [List.map_append, List.nodup_append]
    refine ⟨h.apart, hn, fun x hx y hy e => ?_⟩
    obtain ⟨⟨g, t, cs⟩, hm, rfl⟩ := List.mem_map.1 hx
    obtain ⟨⟨g', t', cs'⟩, hm', rfl⟩ := List.mem_map.1 hy
    have h1 := (h.blk g t cs hm).2.lt
    have h2 := (hM g' t' cs' hm').1
    have e' : g = g' := e
    omega
theorem callN {w0 : Base} {ops : Array Oper} {o : Oper} {l : List Oper} (hg : good ops n F o = true) (f : FuncId) (args : Array Value) (he : ∀ w, (execOp (evF F) o).run P w = .ok (.enter f args) w) (R : Value → Blocks → Prop)
    (hc : ∀ w, St w0 w L → Calls P f args w (GetsN w R)) (h : ∀ v M, R v M → wpS P w0 n ops Q (putF F o.dst v) (L ++ M) l) : wpS P w0 n ops Q F L (o :: l) := fun a w ha hw => by
  obtain ⟨g1, _, g3, _⟩ := good_spec hg
  refine wpList_step fun K hK => ?_
  rw [if_pos (ha.wanted g1)]
  unfold Oper.wp
  rw [good_exec hg ha, he w]
  refine Calls.mono (hc w hw) fun e w' he' => ?_
  obtain ⟨v, M, rfl, hR, hb, hM, hn⟩ := he'
  exact hK _ _ (h v M hR _ _ (ha.put g3 v) (hw.addN hb hM hn))
theorem St.unmark {w0 fz : World} {D : Nat} {w : World} (h : St (ab w0 fz D) w L) (hD : w0.heap.size ≤ D) (hm : fz.heap[D]? = some (.deferred (some []))) :
    (Instr.takeDeferred D).run P w = .ok [] (w.putObj D (.deferred none)) ∧ St (Base.of w0) (w.putObj D (.deferred none)) L := by
  have ho := h.non D _ hD hm rfl
  have hg := grownBy_putObj' w D (.deferred none)
  refine ⟨run_takeDeferred ho, ?_⟩
  have h1 : St ⟨w0, w0, [], Fence.wide, 9⟩ w L := ⟨h.below, h.blk, h.apart, h.below.size, fun k o hk hq _ => by have := (Array.getElem?_eq_some_iff.1 hq).1; exact absurd this (by show ¬ k < w0.heap.size; have : w0.heap.size ≤ k := hk; omega)⟩
  exact h1.own (B := w0.heap.size) (Nat.le_refl _) (Nat.le_refl _) hg (fun r e => by cases e; exact ⟨hD, _, ho, rfl⟩)
theorem retM1 {w1 fz : World} {D : Nat} {fn : Func} {r : ResultVar} {v : Value} (hr : fn.results = #[r]) (h : Has P F L r v) (hD : w1.heap.size ≤ D) (hm : fz.heap[D]? = some (.deferred (some []))) : X (ab w1 fz D) n (bodyPostM Fence.wide 9 P fn (Gets w1 v)) F L .ret := fun a w ha hw => by
  obtain ⟨e1, e2⟩ := St.unmark (P := P) hw hD hm
  have hd : a.defers = [mark D] := ha.1
  show LeavesInM Fence.wide 9 P fn a.tmps (Gets w1 v) a.defers .returning w
  rw [hd]
  refine ⟨by simp, .inl ⟨D, _, rfl, e1, ?_⟩⟩
  refine ⟨v, ?_, rfl, e2.below⟩
  rcases Res.run h ha e2 with ⟨t, rfl, f1⟩ | ⟨t, ty, ad, rfl, f1, f2⟩ <;> simp [results, Result.andThen, *]
end
end Go.Proofs.YtbofhoonlmikcaaGreatDoor.Sy

end
section
namespace Go.Proofs.YtbofhoonlmikcaaGreatDoor.Sy
open Go.RowKit Go.Proofs.YtbofhoonlmikcaaGreatDoor

abbrev pb (W : World) (m : Nat) : Base := ⟨W, W, [], Fence.wide, m⟩
theorem St.here (W : World) (m : Nat) : St (pb W m) W [] := ⟨Below.refl _ _, (fun _ _ _ h => by cases h), List.Pairwise.nil, Nat.le_refl _, fun _ _ _ h _ => h⟩
theorem St.grown {W w : World} {m : Nat} {L : Blocks} (h : St (pb W m) w L) : Gr W w := h.below

section
variable {P : Program} {W : World} {m n : Nat} {Q : Exit → Act → World → Prop} {F : Slots} {L : Blocks} {ops : Array Oper} {o : Oper} {rest : List Oper}
theorem operIn_wide {o : Oper} {a : Act} {w : World} {K : Act → World → Prop} (hd : ∀ c, o.op ≠ .defer c) (h : o.wp P a w K Q) : o.wpIn Fence.wide m P a w K Q := by
  unfold Oper.wpIn
  refine ⟨fun _ _ => trivial, ?_⟩
  rw [Oper.semAt_plain _ _ _ hd]
  unfold Oper.wp at h
  generalize (execOp a.eval o).run P w = r at *
  cases r with
  | ok x w' =>
    cases x <;> simp only [Oper.upon, Oper.uponIn] at h ⊢ <;> first
      | exact h
      | exact ⟨fun e => by simp [Fence.wide] at e, callsIn_wide.2 h⟩
      | exact ⟨fun e => by simp [Fence.wide] at e, fun c cs _ => let ⟨v, w', r, s⟩ := h c cs; ⟨v, w', r, stepsIn_wide.2 s⟩⟩
      | exact h.elim
  | halt x w' => cases x <;> simp only [Oper.upon, Oper.uponIn] at h ⊢ <;> exact h
def thenI (P : Program) (ops : Array Oper) (m : Nat) (rest : List Oper) (Q : Exit → Act → World → Prop) : Exit → Act → World → Prop
  | .normal, a, w => wpListIn Fence.wide m P ops Q rest a w
  | e, a, w => Q e a w
theorem listIn_app (hq : ¬ LetsOut Q) : ∀ (l : List Oper), (∀ o ∈ l, ∀ c, o.op ≠ .defer c) → ∀ (a : Act) (w : World), wpList P ops (thenI P ops m rest Q) l a w → wpListIn Fence.wide m P ops Q (l ++ rest) a w
  | [], _, _, _, h => h
  | o :: l, hd, a, w, h => by
    have hq' : ¬ LetsOut (thenI P ops m rest Q) := fun ⟨a, w, q⟩ => hq ⟨a, w, q⟩
    unfold wpList at h
    show wpListIn Fence.wide m P ops Q (o :: (l ++ rest)) a w
    unfold wpListIn
    split
    · rename_i hw
      simp only [hw, if_true] at h
      rcases h with h | h
      · have h1 := operIn_wide (m := m) (hd o (by simp)) h
        have h2 : o.wpIn Fence.wide m P a w _ Q := h1
        exact Oper.wpIn_mono (fun a w h' => listIn_app hq l (fun o ho => hd o (by simp [ho])) a w h') h2
      · exact absurd h.2 hq'
    · rename_i hw
      simp only [hw] at h
      exact ⟨fun _ _ => trivial, listIn_app hq l (fun o ho => hd o (by simp [ho])) _ _ h⟩
theorem listIn_wide (hq : ¬ LetsOut Q) : ∀ (l : List Oper), (∀ o ∈ l, ∀ c, o.op ≠ .defer c) → ∀ (a : Act) (w : World), wpList P ops Q l a w → wpListIn Fence.wide m P ops Q l a w
  | [], _, _, _, h => h
  | o :: l, hd, a, w, h => by
    unfold wpList at h
    unfold wpListIn
    split
    · rename_i hw
      simp only [hw, if_true] at h
      rcases h with h | h
      · exact Oper.wpIn_mono (fun a w h' => listIn_wide hq l (fun o ho => hd o (by simp [ho])) a w h') (operIn_wide (hd o (by simp)) h)
      · exact absurd h.2 hq
    · rename_i hw
      simp only [hw] at h
      exact ⟨fun _ _ => trivial, listIn_wide hq l (fun o ho => hd o (by simp [ho])) _ _ h⟩
theorem noDefer_mem (h : noDefer ops = true) {o : Oper} (ho : o ∈ ops.toList) : ∀ c, o.op ≠ .defer c := by
  obtain ⟨i, hi⟩ := List.mem_iff_getElem?.1 ho
  exact noDefer_spec h (by simpa using hi)
theorem regionY {i : Nat} (k : Nat) (hq : ¬ LetsOut Q) (hd : noDefer ops = true) (h : wpS P (pb W m) n ops (thenI P ops m (ops.toList.drop k) Q) F L (ops.toList.take k)) : wpC P (pb W m) n Q F L (.region i ops false) := fun a w ha hw => by
  refine wpIn_region_list ?_
  have h1 := listIn_app hq (ops.toList.take k) (fun o ho => noDefer_mem hd (List.mem_of_mem_take ho)) a w (h a w ha hw)
  rwa [List.take_append_drop] at h1
theorem yieldX {ro : Option Nat} {k : Nat} (hl : ops.toList.drop k = o :: rest) (hq : ¬ LetsOut Q) (hd : noDefer ops = true) (hg : good ops n F o = true) (l : Nat) (args : Array Value) (he : ∀ w, (execOp (evF F) o).run P w = (Instr.yield l args).run P w)
    (R : Ending → World → Prop) (hY : ∀ w, Gr W w → YieldAt Fence.wide (m - 1) P l args w R) (hR : ∀ e w', R e w' → ∃ b, e = .returned (.bool b)) (_ : ro = none)
    (h : ∀ w' b, R (.returned (.bool b)) w' → wpS P (pb w' m) n ops Q (putF F o.dst (.bool b)) [] rest) : X (pb W m) n (thenI P ops m (ops.toList.drop k) Q) F L .normal := fun a w ha hw => by
  show wpListIn Fence.wide m P ops Q (ops.toList.drop k) a w
  have hdr : ∀ o ∈ ops.toList.drop k, ∀ c, o.op ≠ .defer c := fun o ho => noDefer_mem hd (List.mem_of_mem_drop ho)
  rw [hl] at hdr ⊢
  obtain ⟨g1, _, g3, _⟩ := good_spec hg
  unfold wpListIn
  rw [if_pos (ha.wanted g1)]
  unfold Oper.wpIn
  refine ⟨fun _ _ => trivial, ?_⟩
  rw [Oper.semAt_plain _ _ _ (hdr o (by simp)), good_exec hg ha, he w]
  obtain ⟨fn, tmps, assign, body, e1, e2⟩ := hY w hw.grown
  rw [e1]
  refine ⟨fun e => by simp [Fence.wide] at e, e2.mono fun e w' hr => ?_⟩
  obtain ⟨b, rfl⟩ := hR e w' hr
  exact listIn_wide hq rest (fun o ho => hdr o (by simp [ho])) _ _ (h w' b hr _ _ (ha.put g3 _) (St.here w' m))

theorem abides_gr {β : Type} {B : Nat} {J : β → World → Prop} (h : AbidesFrom B J) {s : β} {X Y : World} (hj : J s X) (hg : Gr X Y) : J s Y := h s X Y none hj (only_of_below hg none) (fun r e => by cases e)
theorem yield_mono {l : Nat} {args : Array Value} {R R' : Ending → World → Prop} (h : YieldAt Fence.wide m P l args W R) (hr : ∀ e w, R e w → R' e w) : YieldAt Fence.wide m P l args W R' := by
  obtain ⟨fn, tmps, assign, body, e1, e2⟩ := h
  exact ⟨fn, tmps, assign, body, e1, e2.mono hr⟩

def NextP (n N : Nat) (FF : Nat → Slots) (Z : Nat → World → Prop) (k : Nat) : Act → World → Prop := fun a w => k < N ∧ Fr [] a n (FF (k + 1)) ∧ Z (k + 1) w
theorem loopP {c : Code} (N : Nat) (FF : Nat → Slots) (Z : Nat → World → Prop) (hF : ∀ p ∈ FF 0, F.lookup p.1 = some p.2) (h0 : ∀ w, Gr W w → Z 0 w)
    (hr : ∀ k w, k ≤ N → Z k w → wpC P (pb w m) n (Exit.then (NextP n N FF Z k) Q) (FF k) [] c) : wpC P (pb W m) n Q F L (.loop c) :=
  loopI N (fun k a w => Fr [] a n (FF k) ∧ Z k w) (fun a w ha hw => ⟨ha.all hF, h0 w hw.grown⟩)
    fun k hk a w ⟨ha, hz⟩ => hr k w hk hz a w ha (St.here w m)
theorem againP {N : Nat} {FF : Nat → Slots} {Z : Nat → World → Prop} {k : Nat} {R : Exit → Act → World → Prop} (hk : k < N) (hF : ∀ p ∈ FF (k + 1), F.lookup p.1 = some p.2) (hz : ∀ w, Gr W w → Z (k + 1) w) :
    X (pb W m) n (Exit.then (NextP n N FF Z k) R) F L .normal := fun _ w ha hw => ⟨hk, ha.all hF, hz w hw.grown⟩
theorem enterP {f : FuncId} {fn : Func} {c : Code} {args : List Value} {R : Ending → World → Prop} (hf : P.funcs[f]? = some fn) (hb : fn.body = some c) (hn : args.length ≤ fn.ntmps)
    (h : wpC P (pb W m) fn.ntmps (bodyPost P fn R) (slotsOf 0 args) [] c) : CallsIn Fence.wide m P f args.toArray W R :=
  callsIn_of_wp hf hb trivial (h _ _ ⟨rfl, by simp; omega, fun i v hi => by
    have := (lookup_slotsOf args 0 i v hi).2
    rw [Nat.sub_zero] at this
    have hl := (List.getElem?_eq_some_iff.1 this).1
    rw [Array.getElem?_append_left (by simpa using hl)]
    simpa using this⟩ (St.here W m)) rfl
theorem retP {fn : Func} {R : Ending → World → Prop} (hr : fn.results = #[]) (h : ∀ v w, Gr W w → R (.returned v) w) {e : Exit} (he : e = .ret ∨ e = .normal) : X (pb W m) n (bodyPost P fn R) F L e := fun a w ha hw => by
  have hx : a.defers = [] ∧ ∃ v, (results fn a.tmps).run P w = .ok v w ∧ R (.returned v) w := ⟨ha.1, _, results_none hr _ _ _, h _ w hw.grown⟩
  rcases he with rfl | rfl <;> exact hx
end
end Go.Proofs.YtbofhoonlmikcaaGreatDoor.Sy

end
section
namespace Go.Proofs.YtbofhoonlmikcaaGreatDoor.Cu
open Go.RowKit Go.Proofs.YtbofhoonlmikcaaGreatDoor Go.Proofs.YtbofhoonlmikcaaGreatDoor.Sy
set_option maxRecDepth 100000
set_option maxHeartbeats 4000000

def chV (b off m c : Nat) : Value := .slice (some ⟨b, off + 32 * c * 13, none⟩) (szC m c) (szC m c)
def chE (b off m : Nat) {N : Nat} (x : Fin N) : Array Value := #[chV b off m x.val]
set_option maxHeartbeats 1000000 in
theorem chunk_any (w : World) (A : Option Addr) (m cap : Nat) :
    Calls Tryz.prog 117 #[.slice A m cap, .int .i64 32] w (GetsN w fun v M => ∃ g1 g2, v = .func (.func 160) #[] #[.pointer (some ⟨g1, 0, none⟩), .pointer (some ⟨g2, 0, none⟩)] ∧ M = [(g1, 106, #[.slice A m cap]), (g2, 3, #[.int .i64 32])]) := by
  go_enter Tryz.func117, Tryz.ntmps117
  go_wp2
  go_ret
  refine ⟨_, _, rfl, ⟨_, _, rfl, rfl⟩, below_alloc2 w _ _, fun g t cs hm => ?_, ?_⟩
  · simp only [List.mem_cons, List.not_mem_nil, or_false, Prod.mk.injEq] at hm
    rcases hm with ⟨rfl, rfl, rfl⟩ | ⟨rfl, rfl, rfl⟩
    · exact ⟨Nat.le_refl _, (Blk.new w _ _).alloc _⟩
    · exact ⟨by omega, blk_new2 w _ _ _⟩
  · simp
theorem chunk1_in (n l Bs Bn n₀ b off m cap N : Nat) (hN0 : N = (m + 31) / 32) (hm : m ≤ cap) (hm2 : m ≤ 4611686018427387904) (J Jx : List (Fin N) → World → Prop) (W : World) (hJ : AbidesFrom W.heap.size J) (hJx : AbidesFrom W.heap.size Jx)
    (hY : ∀ pre x W1, J pre W1 → pre.length < N → YieldAt Fence.wide (n - 1) Tryz.prog l (chE b off m x) W1 fun e W' => (e = .returned (.bool true) ∧ J (pre ++ [x]) W' ∧ KpL n₀ [(Bs, 106, #[.slice (some ⟨b, off, none⟩) m cap]), (Bn, 3, #[.int .i64 32])] W1 W') ∨ (e = .returned (.bool false) ∧ Jx (pre ++ [x]) W'))
    (hS : Blk W Bs 106 #[.slice (some ⟨b, off, none⟩) m cap]) (hN : Blk W Bn 3 #[.int .i64 32]) (h0 : J [] W) :
    CallsIn Fence.wide n Tryz.prog 160 #[.func (.yield l) #[] #[], .pointer (some ⟨Bs, 0, none⟩), .pointer (some ⟨Bn, 0, none⟩)] W fun e W' => (∃ v, e = .returned v) ∧ ((∃ ys : List (Fin N), ys.map (·.1) = List.range N ∧ J ys W') ∨ (∃ pre : List (Fin N), (∃ k, k ≤ N ∧ pre.map (·.1) = List.range k) ∧ Jx pre W')) := by
  refine Sy.enterP (args := [.func (.yield l) #[] #[], .pointer (some ⟨Bs, 0, none⟩), .pointer (some ⟨Bn, 0, none⟩)]) Tryz.func160 rfl kL ?_
  refine sC ?_
  refine sP (.int .i64 0) ?_
  refine sG ?_
  refine Sy.block ?_
  refine Sy.loopP N (fun k1 => [(0, .func (.yield l) #[] #[]), (1, .pointer (some ⟨Bs, 0, none⟩)), (2, .pointer (some ⟨Bn, 0, none⟩)), (4, .int .i64 ((32 * k1 : Nat) : Int))]) (fun k1 w => ∃ pre : List (Fin N), pre.map (·.1) = List.range k1 ∧ J pre w ∧ Blk w Bs 106 #[.slice (some ⟨b, off, none⟩) m cap] ∧ Blk w Bn 3 #[.int .i64 32]) (all_cons kR (all_cons kR (all_cons kR (all_cons kR all_nil)))) (fun w hg => ⟨[], rfl, abides_gr hJ h0 hg, hg.blk hS, hg.blk hN⟩) (fun k1 wr hk1 hz => ?_)
  clear hS hN
  obtain ⟨pre, hpre, hj, hS, hN⟩ := hz
  have hlen : pre.length = k1 := by have := congrArg List.length hpre; rwa [List.length_map, List.length_range] at this
  refine Sy.seq ?_
  refine sC ?_
  refine sP (.int .i64 ((32 * k1 : Nat) : Int)) <| sS (.slice (some ⟨b, off, none⟩) m cap) (Quiet.thereOne Bs 0 106 _ _ rfl kR hS.lt _ (hS.cell 0) Tryz.underlying106 rfl) <| sP (.int .i64 ((m : Nat) : Int)) ?_
  obtain ⟨b1, hb1⟩ : ∃ z : Bool, z = decide (32 * k1 < m) := ⟨_, rfl⟩
  refine sS (.bool b1) (Quiet.pure (exec_int .lss _ _ _ .i64 _ _ _ rfl rfl rfl (int_lss _ _ _ _ _ (by rw [hb1]; exact decide_eq_decide.2 (by omega))))) ?_
  refine sG ?_
  cases b1
  · have lb1 : ¬ (32 * k1 < m) := of_decide_eq_false hb1.symm
    refine sU ?_
    refine Sy.exit ?_
    refine Sy.then_exit ?_
    refine Sy.then_exit ?_
    obtain rfl : N = k1 := by omega
    refine Sy.in_exit ?_
    exact Sy.retP rfl (fun v w3 hg => ⟨⟨_, rfl⟩, .inl ⟨pre, hpre, abides_gr hJ hj hg⟩⟩) (.inr rfl)
  · have lb1 : 32 * k1 < m := of_decide_eq_true hb1.symm
    refine sT ?_
    refine Sy.skip ?_
    refine Sy.then_ ?_
    refine Sy.seq ?_
    refine Sy.block ?_
    refine Sy.seq ?_
    refine Sy.regionD (fun j => false) kR ?_
    refine sD 0 rfl (.int .i64 ((32 : Nat) : Int)) (Quiet.thereOne Bn 0 3 _ _ rfl kR hN.lt _ (hN.cell 0) Tryz.underlying3 rfl) <| sD 1 rfl (.slice (some ⟨b, off, none⟩) m cap) (Quiet.thereOne Bs 0 106 _ _ rfl kR hS.lt _ (hS.cell 0) Tryz.underlying106 rfl) <| sZ 2 rfl (.int .i64 ((32 * k1 : Nat) : Int)) <| sD 3 rfl (.slice (some ⟨b, off + (32 * k1) * 13, none⟩) (m - (32 * k1)) (cap - (32 * k1))) (Quiet.pure (exec_sl1 _ _ _ b off m cap (32 * k1) 13 .i64 rfl rfl rfl kR kF (by omega) (by omega))) <| sZ 4 rfl (.int .i64 (((m - (32 * k1)) : Nat) : Int)) ?_
    obtain ⟨sz, hsz⟩ : ∃ z, z = szC m k1 := ⟨_, rfl⟩
    have hs : 0 < sz ∧ 32 * k1 + sz ≤ m := by rw [hsz]; unfold szC; omega
    refine sD 5 rfl (.int .i64 ((sz : Nat) : Int)) (Quiet.pure (exec_min _ _ .i64 32 (m - (32 * k1)) sz rfl rfl rfl (by rw [hsz]; unfold szC; omega))) <| sZ 6 rfl (.int .i64 ((sz : Nat) : Int)) ?_
    refine sI ?_
    refine Sy.seq ?_
    have hx : k1 < N := by omega
    refine Sy.regionY 10 (by rintro ⟨_, _, ⟨_, hv⟩, _⟩; cases hv) kR ?_
    refine sP (.func (.yield l) #[] #[]) <| sS (.slice (some ⟨b, off, none⟩) m cap) (Quiet.thereOne Bs 0 106 _ _ rfl kR hS.lt _ (hS.cell 0) Tryz.underlying106 rfl) <| sP (.int .i64 ((32 * k1 : Nat) : Int)) <| sP (.int .i64 ((32 * k1 : Nat) : Int)) <| sP (.int .i64 ((sz : Nat) : Int)) <| sS (.int .i64 (((32 * k1) + sz : Nat) : Int)) (Quiet.pure (exec_int .add _ _ _ .i64 _ _ _ rfl rfl rfl (int_add _ _ _ _ _ ((wrap_i64 (by omega) (by omega)).trans (by omega))))) <| sP (.int .i64 ((32 * k1 : Nat) : Int)) <| sP (.int .i64 ((sz : Nat) : Int)) ?_
    refine sS (.int .i64 (((32 * k1) + sz : Nat) : Int)) (Quiet.pure (exec_int .add _ _ _ .i64 _ _ _ rfl rfl rfl (int_add _ _ _ _ _ ((wrap_i64 (by omega) (by omega)).trans (by omega))))) <| sS (.slice (some ⟨b, off + (32 * k1) * 13, none⟩) (((32 * k1) + sz) - (32 * k1)) (((32 * k1) + sz) - (32 * k1))) (Quiet.pure (exec_sl3 _ _ _ _ _ b off m cap (32 * k1) ((32 * k1) + sz) ((32 * k1) + sz) 13 .i64 .i64 .i64 rfl rfl rfl rfl rfl kR kF (by have := hs; omega) (by have := hs; omega) (by have := hs; omega) (by have := hs; omega))) ?_
    refine Sy.nil ?_
    refine Sy.yieldX (ro := none) rfl (by rintro ⟨_, _, ⟨_, hv⟩, _⟩; cases hv) kR kR l #[.slice (some ⟨b, off + (32 * k1) * 13, none⟩) (((32 * k1) + sz) - (32 * k1)) (((32 * k1) + sz) - (32 * k1))] kF (fun e W' => (e = .returned (.bool true) ∧ J (pre ++ [⟨k1, hx⟩]) W' ∧ Blk W' Bs 106 #[.slice (some ⟨b, off, none⟩) m cap] ∧ Blk W' Bn 3 #[.int .i64 32]) ∨ (e = .returned (.bool false) ∧ Jx (pre ++ [⟨k1, hx⟩]) W')) (fun w hg => by
            have e : chE b off m ⟨k1, hx⟩ = #[.slice (some ⟨b, off + 32 * k1 * 13, none⟩) (32 * k1 + sz - 32 * k1) (32 * k1 + sz - 32 * k1)] := by unfold chE chV; rw [← hsz, Nat.add_sub_cancel_left]
            have y := hY pre ⟨k1, hx⟩ w (abides_gr hJ hj hg) (by omega)
            rw [e] at y
            exact yield_mono y (fun e w' q => q.imp (fun q => ⟨q.1, q.2.1, q.2.2.2 (Bs, 106, _) (by simp) (hg.blk hS), q.2.2.2 (Bn, 3, _) (by simp) (hg.blk hN)⟩) id)) (fun e w' q => q.elim (fun q => ⟨_, q.1⟩) (fun q => ⟨_, q.1⟩)) rfl (fun w2 b hr => ?_)
    cases b
    · have hx2 := hr.elim (fun q => by cases q.1) (fun q => q.2)
      refine sP (.bool true) ?_
      refine sG ?_
      refine sT ?_
      refine Sy.ret ?_
      refine Sy.in_ret ?_
      refine Sy.then_ret ?_
      refine Sy.then_ret ?_
      refine Sy.in_ret ?_
      exact Sy.retP rfl (fun v w3 hg => ⟨⟨_, rfl⟩, .inr ⟨pre ++ [⟨k1, hx⟩], ⟨k1 + 1, by omega, by rw [List.map_append, hpre, List.range_succ]; rfl⟩, abides_gr hJx hx2 hg⟩⟩) (.inl rfl)
    · clear hS hN hj
      obtain ⟨hj, hS, hN⟩ := hr.elim (fun q => q.2) (fun q => by cases q.1)
      refine sP (.bool false) ?_
      refine sG ?_
      refine sU ?_
      refine Sy.skip ?_
      refine Sy.in_ ?_
      refine Sy.then_ ?_
      refine Sy.region ?_
      refine sP (.int .i64 ((32 * k1 : Nat) : Int)) <| sS (.int .i64 ((32 : Nat) : Int)) (Quiet.thereOne Bn 0 3 _ _ rfl kR hN.lt _ (hN.cell 0) Tryz.underlying3 rfl) <| sS (.int .i64 (((32 * k1) + 32 : Nat) : Int)) (Quiet.pure (exec_int .add _ _ _ .i64 _ _ _ rfl rfl rfl (int_add _ _ _ _ _ ((wrap_i64 (by omega) (by omega)).trans (by omega))))) <| sP (.int .i64 (((32 * k1) + 32 : Nat) : Int)) ?_
      refine Sy.nil ?_
      exact Sy.againP (by omega) (all_cons kR (all_cons kR (all_cons kR (all_cons kR all_nil)))) (fun w3 hg => ⟨pre ++ [⟨k1, hx⟩], by rw [List.map_append, hpre, List.range_succ]; rfl, abides_gr hJ hj hg, hg.blk hS, hg.blk hN⟩)
theorem chunk0_in (n l Bs Bn cap : Nat) (A : Option Addr) (J Jx : List (Fin 0) → World → Prop) (W : World) (hJ : AbidesFrom W.heap.size J)
    (hS : Blk W Bs 106 #[.slice A 0 cap]) (hN : Blk W Bn 3 #[.int .i64 32]) (h0 : J [] W) :
    CallsIn Fence.wide n Tryz.prog 160 #[.func (.yield l) #[] #[], .pointer (some ⟨Bs, 0, none⟩), .pointer (some ⟨Bn, 0, none⟩)] W fun e W' => (∃ v, e = .returned v) ∧ ((∃ ys : List (Fin 0), ys.map (·.1) = List.range 0 ∧ J ys W') ∨ (∃ pre : List (Fin 0), (∃ k, k ≤ 0 ∧ pre.map (·.1) = List.range k) ∧ Jx pre W')) := by
  refine Sy.enterP (args := [.func (.yield l) #[] #[], .pointer (some ⟨Bs, 0, none⟩), .pointer (some ⟨Bn, 0, none⟩)]) Tryz.func160 rfl kL ?_
  refine sC ?_
  refine sP (.int .i64 0) ?_
  refine sG ?_
  refine Sy.block ?_
  refine Sy.loopP 0 (fun k1 => [(0, .func (.yield l) #[] #[]), (1, .pointer (some ⟨Bs, 0, none⟩)), (2, .pointer (some ⟨Bn, 0, none⟩)), (4, .int .i64 ((32 * k1 : Nat) : Int))]) (fun k1 w => J [] w ∧ Blk w Bs 106 #[.slice A 0 cap] ∧ Blk w Bn 3 #[.int .i64 32]) (all_cons kR (all_cons kR (all_cons kR (all_cons kR all_nil)))) (fun w hg => ⟨abides_gr hJ h0 hg, hg.blk hS, hg.blk hN⟩) (fun k1 wr hk1 hz => ?_)
  clear hS hN
  obtain ⟨hj, hS, hN⟩ := hz
  refine Sy.seq ?_
  refine sC ?_
  refine sP (.int .i64 ((32 * k1 : Nat) : Int)) <| sS (.slice A 0 cap) (Quiet.thereOne Bs 0 106 _ _ rfl kR hS.lt _ (hS.cell 0) Tryz.underlying106 rfl) <| sP (.int .i64 ((0 : Nat) : Int)) ?_
  obtain ⟨b1, hb1⟩ : ∃ z : Bool, z = decide (32 * k1 < 0) := ⟨_, rfl⟩
  refine sS (.bool b1) (Quiet.pure (exec_int .lss _ _ _ .i64 _ _ _ rfl rfl rfl (int_lss _ _ _ _ _ (by rw [hb1]; exact decide_eq_decide.2 (by omega))))) ?_
  refine sG ?_
  cases b1
  · have lb1 : ¬ (32 * k1 < 0) := of_decide_eq_false hb1.symm
    refine sU ?_
    refine Sy.exit ?_
    refine Sy.then_exit ?_
    refine Sy.then_exit ?_
    obtain rfl : k1 = 0 := by omega
    refine Sy.in_exit ?_
    exact Sy.retP rfl (fun v w3 hg => ⟨⟨_, rfl⟩, .inl ⟨[], rfl, abides_gr hJ hj hg⟩⟩) (.inr rfl)
  · have lb1 : 32 * k1 < 0 := of_decide_eq_true hb1.symm
    refine sT ?_
    refine Sy.skip ?_
    refine Sy.then_ ?_
    refine Sy.seq ?_
    exact absurd lb1 (by omega)
def TSrc (w : World) (A : Option Addr) (n : Nat) (T : Nat → Trm) (b o : Nat) : Prop := 0 < n → A = some ⟨b, o, none⟩ ∧ b < w.heap.size ∧ ∀ j, j < n → w.rangeAt b (o + j * 13) (T j).cells
theorem chunk_stops (n Bs Bn n₀ b off m cap N : Nat) (A : Option Addr) (hN0 : N = (m + 31) / 32) (hm : m ≤ cap) (hm2 : m ≤ 4611686018427387904) (hA : 0 < m → A = some ⟨b, off, none⟩) (w : World) (hS : Blk w Bs 106 #[.slice A m cap]) (hN : Blk w Bn 3 #[.int .i64 32]) :
    SeqStopsK Fence.wide n Tryz.prog 160 #[.pointer (some ⟨Bs, 0, none⟩), .pointer (some ⟨Bn, 0, none⟩)] (chE b off m (N := N)) (KpL n₀ [(Bs, 106, #[.slice A m cap]), (Bn, 3, #[.int .i64 32])]) (fun ys => ys.map (·.1) = List.range N) (fun pre => ∃ k, k ≤ N ∧ pre.map (·.1) = List.range k) N w := fun l J Jx W hW hJ hJx hY h0 => by
  have hS' := hS.below hW hS.lt
  have hN' := hN.below hW hN.lt
  rcases Nat.eq_zero_or_pos m with h | h
  · subst h
    obtain rfl : N = 0 := hN0
    exact chunk0_in n l Bs Bn cap A J Jx W hJ hS' hN' h0
  · obtain rfl := hA h
    exact chunk1_in n l Bs Bn n₀ b off m cap N hN0 hm hm2 J Jx W hJ hJx hY hS' hN' h0
end Go.Proofs.YtbofhoonlmikcaaGreatDoor.Cu

end
section
namespace Go.Proofs.YtbofhoonlmikcaaGreatDoor.Cu
open Go.RowKit Go.Proofs.YtbofhoonlmikcaaGreatDoor Go.Proofs.YtbofhoonlmikcaaGreatDoor.Sy

theorem rangeN2 {w w' : World} {g o o' : Nat} {vs : List Value} (h : w.rangeAt g o vs) (hb : Below w.heap.size w w') (hg : g < w.heap.size) (e : o' = o) : w'.rangeAt g o' vs := fun j v hj => by
  rw [e]
  exact (Below.cell (p := ⟨g, o + j, none⟩) hb hg).trans (h j v hj)
set_option maxHeartbeats 4000000 in
set_option maxRecDepth 100000 in
theorem multi_any (w : World) (A : Option Addr) (b o n c : Nat) (T : Nat → Trm) (hnc : n ≤ c) (hc : n ≤ 4611686018427387904) (hok : ∀ j, (T j).ok) (hT : TSrc w A n T b o) : Calls Tryz.prog 65 #[.slice A n c] w (Gets w (ptv (Ec.sumL finv (fun t => Ec.nm finv (T t).kn (T t).pt) (List.range n)))) := by
  obtain ⟨N, hN0⟩ : ∃ N, N = (n + 31) / 32 := ⟨_, rfl⟩
  obtain ⟨R, hR⟩ : ∃ R, R = ptJ (chL T n (List.range N)) := ⟨_, rfl⟩
  have hRs : Ec.sumL finv (fun t => Ec.nm finv (T t).kn (T t).pt) (List.range n) = R := by rw [hR, hN0]; exact (ptJ_rep (chL_all T n)).symm
  rw [hRs]
  have hRo : Ec.On R := by rw [← hRs]; exact Ec.On.sumL fld _ fun x _ => (T x).on.nm fld _
  obtain ⟨rx, ry, ri, _, _, eR, _, _⟩ := ptv_raw R hRo
  rw [eR]
  refine Sy.enterM (args := [.slice A n c]) Tryz.func65 rfl kL ?_
  refine sC ?_
  refine sM 52 (pcs 0 0 false) (fun g0 => ?_)
  refine sA ?_
  refine sM 152 (tcs 0 0 0) (fun g1 => ?_)
  refine sG ?_
  refine Sy.seq ?_
  refine sC ?_
  refine sP (.slice A n c) ?_
  refine Sy.callN kR 117 #[.slice A n c, .int .i64 32] kF (fun v M => ∃ g1 g2, v = .func (.func 160) #[] #[.pointer (some ⟨g1, 0, none⟩), .pointer (some ⟨g2, 0, none⟩)] ∧ M = [(g1, 106, #[.slice A n c]), (g2, 3, #[.int .i64 32])]) (fun w _ => chunk_any w _ _ _) (fun v M hR0 => ?_)
  obtain ⟨u1, u2, rfl, rfl⟩ := hR0
  refine sG ?_
  refine Sy.block ?_
  refine Sy.rangeF (α := Fin N) 160 #[.pointer (some ⟨u1, 0, none⟩), .pointer (some ⟨u2, 0, none⟩)] kR kR (enters_of Tryz.func160 kR rfl) (chE b o n) [(u1, 106, (#[.slice A n c])), (u2, 3, (#[.int .i64 32]))] (fun ys => ys.map (·.1) = List.range N) (fun pre => ∃ k, k ≤ N ∧ pre.map (·.1) = List.range k) N (fun _ => rfl) (by decide) [g0, g1, u1, u2] (fun _ => True) (trivial) (fun pre => [(g0, 52, (pcs 0 0 false)), (g1, 152, (tcs ((chL T n (pre.map (·.1))).x.val) ((chL T n (pre.map (·.1))).y.val) ((chL T n (pre.map (·.1))).z.val))), (u1, 106, (#[.slice A n c])), (u2, 3, (#[.int .i64 32]))]) (fun pre => [(g0, 52, (pcs 0 0 false)), (g1, 152, (tcs ((chL T n (pre.map (·.1))).x.val) ((chL T n (pre.map (·.1))).y.val) ((chL T n (pre.map (·.1))).z.val))), (u1, 106, (#[.slice A n c])), (u2, 3, (#[.int .i64 32]))]) (fun _ => False) [true, true, true, true] kR (fun _ => rfl) ?_ ?_ 0 (fun x gs => [(3, .pointer (some ⟨g1, 0, none⟩)), (4, chV b o n x.val)]) (fun x gs => []) (fun x gs h => by cases gs with | nil => rfl | cons _ _ => cases h) ?_ ?_ ?_ ?_
  · intro w hw
    have hS := hw.get (i := 2) rfl
    have hN := hw.get (i := 3) rfl
    exact ⟨w, Below.refl _ _, chunk_stops 8 u1 u2 _ b o n c N A hN0 hnc hc (fun h => (hT h).1) w hS hN⟩
  · intro p hp pre
    simp only [List.mem_cons, List.not_mem_nil, or_false] at hp ⊢
    rcases hp with rfl | rfl <;> simp
  · intro l fz pre x
    refine Sy.regionR (by rintro ⟨_, _, h⟩; exact h) kR ⟨_, rfl⟩ ?_
    refine sP (chV b o n x.val) ?_
    refine Sy.nil ?_
    exact Sy.apN [] rfl (all_cons kR (all_cons kR all_nil)) [true, true, true, true] kR
  · intro l fz pre x gs hgs hlen hH
    obtain rfl : gs = [] := List.eq_nil_of_length_eq_zero hgs
    have hxN := x.isLt
    have hn0 : 0 < n := by omega
    refine Sy.block ?_
    refine Sy.regionRD (by rintro ⟨_, _, h⟩; exact h) kR ⟨_, rfl⟩ (fun j => j == 4) kR ?_
    refine sD 0 rfl (tv ((chL T n (pre.map (·.1))).x.val) ((chL T n (pre.map (·.1))).y.val) ((chL T n (pre.map (·.1))).z.val)) (qL 1 g1 0 12 152 152 (tcs ((chL T n (pre.map (·.1))).x.val) ((chL T n (pre.map (·.1))).y.val) ((chL T n (pre.map (·.1))).z.val)) rfl Tryz.underlying152) <| sZ 1 rfl (chV b o n x.val) ?_
    obtain ⟨j1, hj1⟩ : ∃ z : J, z = muJ (fun j => T (x.val * 32 + j)) (szC n x.val) 64 := ⟨_, rfl⟩
    refine sD 2 rfl (tv j1.x.val j1.y.val j1.z.val) (qG 119 #[chV b o n x.val] (fun w hw => by rw [hj1]; exact multi_c w b (o + 32 * x.val * 13) (szC n x.val) (szC n x.val) (fun j => T (x.val * 32 + j)) (Nat.lt_of_lt_of_le (hT hn0).2.1 hw.below.size) (by unfold szC; omega) (fun j => hok _) (fun j hj => rangeN2 ((hT hn0).2.2 (x.val * 32 + j) (by unfold szC at hj; omega)) hw.below (hT hn0).2.1 (by omega)))) ?_
    obtain ⟨j2, hj2⟩ : ∃ z : J, z = addJ (chL T n (pre.map (·.1))) j1 := ⟨_, rfl⟩
    refine sD 3 rfl (tv j2.x.val j2.y.val j2.z.val) (qF 118 #[tv ((chL T n (pre.map (·.1))).x.val) ((chL T n (pre.map (·.1))).y.val) ((chL T n (pre.map (·.1))).z.val), tv j1.x.val j1.y.val j1.z.val] (fun w => by rw [hj2]; exact addJ_c w (chL T n (pre.map (·.1))) j1)) <| sX 4 rfl 1 g1 152 (tcs ((chL T n (pre.map (·.1))).x.val) ((chL T n (pre.map (·.1))).y.val) ((chL T n (pre.map (·.1))).z.val)) (tcs j2.x.val j2.y.val j2.z.val) (wS 0 152 (tcs j2.x.val j2.y.val j2.z.val) rfl) ?_
    refine sE ?_
    refine Sy.in_ ?_
    exact Sy.bpN [true, true, true, true] (M := [(g0, 52, (pcs 0 0 false)), (g1, 152, (tcs j2.x.val j2.y.val j2.z.val)), (u1, 106, (#[.slice A n c])), (u2, 3, (#[.int .i64 32]))]) kR (bcons rfl (bcons (beq (by rw [hj2, hj1, List.map_append, List.map_singleton, chL_snoc]; rfl)) (bcons rfl (bcons rfl rfl)))) (trivial)
  · intro D fz xs hS hH hD hm
    have hS0 : xs.map (·.1) = List.range N := hS
    refine Sy.in_ ?_
    refine sB ?_
    refine sS (tv ((chL T n (xs.map (·.1))).x.val) ((chL T n (xs.map (·.1))).y.val) ((chL T n (xs.map (·.1))).z.val)) (qL 1 g1 0 12 152 152 (tcs ((chL T n (xs.map (·.1))).x.val) ((chL T n (xs.map (·.1))).y.val) ((chL T n (xs.map (·.1))).z.val)) rfl Tryz.underlying152) <| sS (pv rx ry ri) (qF 120 #[tv ((chL T n (xs.map (·.1))).x.val) ((chL T n (xs.map (·.1))).y.val) ((chL T n (xs.map (·.1))).z.val)] (fun w => by rw [← eR, hR, ← hS0]; exact point_c w _)) <| sW 0 g0 52 (pcs 0 0 false) (pcs rx ry ri) (wS 0 52 (pcs rx ry ri) rfl) ?_
    refine sG ?_
    refine Sy.ret ?_
    exact Sy.retM1 (v := pv rx ry ri) rfl (.inl (Res.cell (ty' := 52) g0 0 (pcs rx ry ri) _ kR kR Tryz.underlying52 rfl kR kR)) hD hm
  · intro D fz pre hS hx hD hm
    exact hx.elim
end Go.Proofs.YtbofhoonlmikcaaGreatDoor.Cu

end
section
namespace Go.Proofs.YtbofhoonlmikcaaGreatDoor.Cu
open Go.RowKit Go.Proofs.YtbofhoonlmikcaaGreatDoor Go.Proofs.YtbofhoonlmikcaaGreatDoor.Sy

def pX : Pt → Nat
  | none => 0
  | some (x, _) => x.val
def pY : Pt → Nat
  | none => 0
  | some (_, y) => y.val
def pI : Pt → Bool
  | none => true
  | some _ => false
theorem ptv_parts : ∀ P : Pt, ptv P = pv (pX P) (pY P) (pI P)
  | none => rfl
  | some (_, _) => rfl
theorem pX_lt : ∀ P : Pt, pX P < K4
  | none => by show 0 < _; decide
  | some (x, _) => lt4 x
theorem pY_lt : ∀ P : Pt, pY P < K4
  | none => by show 0 < _; decide
  | some (_, y) => lt4 y
theorem dec_parts : ∀ {P : Pt}, Ec.On P → dec (pX P) (pY P) (pI P) = P
  | none, _ => dec_zero
  | some (x, y), h => dec_fin x y h
end Go.Proofs.YtbofhoonlmikcaaGreatDoor.Cu

end
section
namespace Go.Proofs.YtbofhoonlmikcaaGreatDoor.Sc
open Go.RowKit Go.Lib

def modV : Value := .agg #[.int .u64 13822214165235122497, .int .u64 13451932020343611451, .int .u64 18446744073709551614, .int .u64 18446744073709551615, .int .u64 4624529908474429119, .int .u64 4994812053365940164, .int .u64 1]
theorem fv_P : fv 115792089237316195423570985008687907852837564279074904382605163141518161494337 = .agg #[.int .u64 13822214165235122497, .int .u64 13451932020343611451, .int .u64 18446744073709551614, .int .u64 18446744073709551615] := rfl

theorem refN_any (w : World) : Calls Tryz.prog 76 #[] w fun e w' => e = .returned modV ∧ Below w.heap.size w w' := by
  go_enter Tryz.func76, Tryz.ntmps76
  go_wp2
  exact bodyPost_ret (results_cell_row rfl _ _ w.heap.size _ _ (0, 0) _ rfl (heap_alloc_new w _) Tryz.underlying94 rfl (by kernel_rfl)) rfl ⟨rfl, (Below.refl _ _).alloc (Nat.le_refl _) _⟩
theorem refOf_any (w : World) (n : Nat) (hn : n < 115792089237316195423570985008687907853269984665640564039457584007913129639936) : Calls Tryz.prog 77 #[fv n] w fun e w' => e = .returned (fv n) ∧ Below w.heap.size w w' := by
  obtain ⟨a, b, c, d, fn⟩ := words_fv n hn
  rw [fn]
  clear fn
  go_enter Tryz.func77, Tryz.ntmps77
  go_wp2
  exact bodyPost_ret (results_cell_row rfl _ _ (w.heap.size + 1) _ _ (0, 0) _ rfl (heap_alloc2_new w _ _) Tryz.underlying89 rfl (by kernel_rfl)) rfl ⟨rfl, below_alloc2 w _ _⟩
theorem refSc_any (w : World) (n : Nat) (hn : n < 115792089237316195423570985008687907853269984665640564039457584007913129639936) : Calls Tryz.prog 74 #[fv n] w fun e w' => e = .returned (fv n) ∧ Below w.heap.size w w' := by
  obtain ⟨a, b, c, d, fn⟩ := words_fv n hn
  rw [fn]
  clear fn
  go_enter Tryz.func74, Tryz.ntmps74
  go_wp2
  exact bodyPost_ret (results_cell_row rfl _ _ (w.heap.size + 1) _ _ (0, 0) _ rfl (heap_alloc2_new w _ _) Tryz.underlying24 rfl (by kernel_rfl)) rfl ⟨rfl, below_alloc2 w _ _⟩

set_option maxHeartbeats 2000000 in
set_option maxRecDepth 100000 in
theorem normR_any (w : World) (x : Nat) (hx : x < 115792089237316195423570985008687907853269984665640564039457584007913129639936) : Calls Tryz.prog 89 #[modV, fv x] w fun e w' => e = .returned (fv (x % pM)) ∧ Below w.heap.size w w' := by
  obtain ⟨z, hz⟩ : ∃ z, z = x % pM := ⟨_, rfl⟩
  obtain ⟨p, hp⟩ : ∃ p, p = 115792089237316195423570985008687907852837564279074904382605163141518161494337 := ⟨_, rfl⟩
  have hpl : p < 115792089237316195423570985008687907853269984665640564039457584007913129639936 := by omega
  obtain ⟨b, hb⟩ : ∃ b, b = decide (x < p) := ⟨_, rfl⟩
  have cb : ∀ w, Calls Tryz.prog 110 #[fv x, fv p] w fun e w' => e = .returned (.bool b) ∧ Below w.heap.size w w' := by
    intro w; rw [hb]; exact below_at w x p rfl rfl hx hpl
  have t1 : b = true → z = x := fun h => by
    rw [hb] at h
    rw [hz]
    exact Nat.mod_eq_of_lt (by rw [pM_eq, ← hp]; simpa using h)
  have cm : b = false → ∀ w, Calls Tryz.prog 143 #[fv x, fv p] w fun e w' => e = .returned (fv z) ∧ Below w.heap.size w w' := fun h w => by
    rw [hb] at h
    have hle : ¬ x < p := by simpa using h
    have hzx : z + p = x := by rw [hz, red_once x hx, if_neg (by omega)]; omega
    exact minusR_at w x p z 0 rfl rfl hx hpl (by omega) (by omega)
  have hpc : fv p = .agg #[.int .u64 13822214165235122497, .int .u64 13451932020343611451, .int .u64 18446744073709551614, .int .u64 18446744073709551615] := by rw [hp]; exact fv_P
  obtain ⟨x0, x1, x2, x3, fx⟩ := words_fv x hx
  have FX := Lib.hid fx
  have FP := Lib.hid hpc
  rw [fx, ← hz]
  unfold modV
  clear fx hpc hx hz hp hpl hb
  go_enter Tryz.func89, Tryz.ntmps89
  go_wp2_with (first | ((with_reducible refine here_load (d := some 6) ?_); refine wpList_load_fv rfl _ _ rfl (w.heap.size + 1) rfl (x) _ _ _ ((blk_new2 w _ _ _).alloc _) (FX.out) Tryz.underlying89 rfl (by kernel_rfl) ?_) | ((with_reducible refine here_load (d := some 8) ?_); refine wpList_load_part rfl _ _ rfl w.heap.size rfl p [.int .u64 13822214165235122497, .int .u64 13451932020343611451, .int .u64 18446744073709551614, .int .u64 18446744073709551615] _ (mod_range (((Blk.new w _ _).alloc _).alloc _)) FP.out Tryz.underlying89 rfl (by kernel_rfl) ?_))
  refine (cb _).mono ?_
  rintro e w1 ⟨rfl, k1⟩
  have BM : Blk w1 w.heap.size 94 _ := Gr.blk k1 (((Blk.new w _ _).alloc _).alloc _)
  have BX : Blk w1 (w.heap.size + 1) 89 _ := Gr.blk k1 ((blk_new2 w _ _ _).alloc _)
  have BR : Blk w1 (w.heap.size + 2) 89 _ := Gr.blk k1 (blk_new3 w _ _ _ _)
  have hB := Below.gr (below_alloc3 w _ _ _) k1
  clear k1 cb
  cases b
  · have cmm := cm rfl
    clear cm t1
    go_wp2_with (first | ((with_reducible refine here_load (d := some 12) ?_); refine wpList_load_fv rfl _ _ rfl (w.heap.size + 1) rfl (x) _ _ _ (BX) (FX.out) Tryz.underlying89 rfl (by kernel_rfl) ?_) | ((with_reducible refine here_load (d := some 14) ?_); refine wpList_load_part rfl _ _ rfl w.heap.size rfl p [.int .u64 13822214165235122497, .int .u64 13451932020343611451, .int .u64 18446744073709551614, .int .u64 18446744073709551615] _ (mod_range (BM)) FP.out Tryz.underlying89 rfl (by kernel_rfl) ?_))
    refine (cmm _).mono ?_
    rintro e w2 ⟨rfl, k2⟩
    have BR2 := Gr.blk k2 BR
    have hB2 := Below.gr hB k2
    clear k2 cmm
    go_wp2_with (first | ((with_reducible refine here_store ?_); refine wpList_store_blk rfl _ _ _ rfl (w.heap.size + 2) (fcs (z)) rfl rfl _ _ (BR2) (by kernel_rfl) (by rfl) (fcs_one _) ?_; intro w9 hL9 hB9 hK9))
    exact bodyPost_ret (results_cell_row rfl _ _ (w.heap.size + 2) _ _ (0, 0) _ rfl hL9 Tryz.underlying89 rfl (by kernel_rfl)) rfl ⟨rfl, hB2.trans (hB9 _ (by omega))⟩
  · have HZX := Lib.hid (t1 rfl)
    clear t1 cm
    go_wp2_with (first | ((with_reducible refine here_load (d := some 11) ?_); refine wpList_load_fv rfl _ _ rfl (w.heap.size + 1) rfl (x) _ _ _ (BX) (FX.out) Tryz.underlying89 rfl (by kernel_rfl) ?_) | ((with_reducible refine here_store ?_); refine wpList_store_blk rfl _ _ _ rfl (w.heap.size + 2) (fcs (x)) rfl rfl _ _ (BR) (by kernel_rfl) (by rfl) (fcs_one _) ?_; intro w9 hL9 hB9 hK9))
    exact bodyPost_ret (results_cell_row rfl _ _ (w.heap.size + 2) _ _ (0, 0) _ rfl hL9 Tryz.underlying89 rfl (by kernel_rfl)) rfl ⟨by rw [HZX.out]; rfl, hB.trans (hB9 _ (by omega))⟩

end Go.Proofs.YtbofhoonlmikcaaGreatDoor.Sc

end
section
namespace Go.Proofs.YtbofhoonlmikcaaGreatDoor.Cu
open Go.RowKit Go.Proofs.YtbofhoonlmikcaaGreatDoor Go.Proofs.YtbofhoonlmikcaaGreatDoor.Sy
set_option maxRecDepth 100000
set_option maxHeartbeats 4000000

def bt (j : Nat) : Nat := 9223372036854775808 / 2 ^ j
theorem bt_next (j : Nat) : bt j / 2 = bt (j + 1) := by unfold bt; rw [Nat.div_div_eq_div_mul, Nat.pow_succ]
theorem bt_le (j : Nat) : bt j < 18446744073709551616 := Nat.lt_of_le_of_lt (Nat.div_le_self _ _) (by decide)
theorem bt_is {j : Nat} (h : j < 64) : bt j = 2 ^ (63 - j) := by
  unfold bt
  rw [show (9223372036854775808 : Nat) = 2 ^ (63 - j) * 2 ^ j by rw [← Nat.pow_add, show 63 - j + j = 63 by omega], Nat.mul_div_cancel _ (Nat.two_pow_pos j)]
theorem bt_pos (j : Nat) : 0 < bt j ↔ j < 64 := by
  constructor
  · intro h
    rcases Nat.lt_or_ge j 64 with hl | hl
    · exact hl
    · exfalso
      unfold bt at h
      rw [Nat.div_eq_of_lt (Nat.lt_of_lt_of_le (show 9223372036854775808 < 2 ^ 64 by decide) (Nat.pow_le_pow_right (by decide) hl))] at h
      omega
  · intro h
    rw [bt_is h]
    exact Nat.two_pow_pos _
theorem and_bt (z j : Nat) (hj : j < 64) : (z &&& bt j ≠ 0) ↔ z / 2 ^ (63 - j) % 2 = 1 := by
  rw [bt_is hj]
  have e : z.testBit (63 - j) = decide (z / 2 ^ (63 - j) % 2 = 1) := Nat.testBit_eq_decide_div_mod_eq
  generalize 63 - j = i at e ⊢
  by_cases h : z / 2 ^ i % 2 = 1
  · refine ⟨fun _ => h, fun _ h0 => ?_⟩
    have h1 := congrArg (fun t => t.testBit i) h0
    simp [Nat.testBit_and, Nat.testBit_two_pow_self, e, h] at h1
  · refine ⟨fun h0 => (h0 (Nat.eq_of_testBit_eq fun k => ?_)).elim, fun h0 => (h h0).elim⟩
    rw [Nat.testBit_and, Nat.zero_testBit, Nat.testBit_two_pow]
    by_cases hk : i = k
    · subst hk
      simp [e, h]
    · simp [hk]
theorem exec_and (F : Slots) (o : Oper) (t : TypeId) (x y : Operand) {yt : TypeId} (z b : Nat) (hz : z < 18446744073709551616) (hb : b < 18446744073709551616) (ho : o.op = .binOp .and t x y yt) (hx : evF F x = qv z) (hy : evF F y = .int .u64 (b : Int)) (w : World) : (execOp (evF F) o).run Tryz.prog w = .ok (.value (.int .u64 ((z &&& b : Nat) : Int))) w :=
  exec_int .and t x y .u64 (z : Int) (b : Int) _ ho hx hy (int_and t .u64 _ _ _ (by
    have e : ((BitVec.ofInt IntKind.u64.bits (z : Int) &&& BitVec.ofInt IntKind.u64.bits (b : Int)).toNat) = z &&& b := by
      show ((BitVec.ofInt 64 (z : Int) &&& BitVec.ofInt 64 (b : Int)).toNat) = _
      rw [BitVec.toNat_and, BitVec.ofInt_natCast, BitVec.ofInt_natCast, BitVec.toNat_ofNat, BitVec.toNat_ofNat, Nat.mod_eq_of_lt (by omega), Nat.mod_eq_of_lt (by omega)]
    rw [e]
    have h : z &&& b ≤ z := Nat.and_le_left
    exact wrap_u64 (by omega) (by omega))) w
def bitJ (m : Nat) (x y : Fp) : Nat → J
  | 0 => ⟨0, 0, 0⟩
  | t + 1 => if m / 2 ^ (255 - t) % 2 = 1 then plusR (dblR (bitJ m x y t)) x y else dblR (bitJ m x y t)
theorem bitJ_yes {m : Nat} {x y : Fp} {t : Nat} (h : m / 2 ^ (255 - t) % 2 = 1) : bitJ m x y (t + 1) = plusR (dblR (bitJ m x y t)) x y := if_pos h
theorem bitJ_no {m : Nat} {x y : Fp} {t : Nat} (h : ¬ m / 2 ^ (255 - t) % 2 = 1) : bitJ m x y (t + 1) = dblR (bitJ m x y t) := if_neg h
theorem bitJ_rep {m : Nat} (hm : m < 2 ^ 256) {x y : Fp} (h : y * y = x * x * x + 7) : ∀ t, t ≤ 256 → Ec.Rep (bitJ m x y t) (Ec.nm finv (m / 2 ^ (256 - t)) (some (x, y)))
  | 0, _ => by
    rw [Nat.sub_zero, Nat.div_eq_of_lt hm]
    rfl
  | t + 1, ht => by
    have hP : Ec.On (some (x, y)) := h
    have h1 := bitJ_rep hm h t (by omega)
    have hS := hP.nm fld (m / 2 ^ (256 - t))
    have h2 := dblR_rep hS h1
    have e := Ec.bit_step fld hP m (2 ^ (255 - t))
    rw [← Nat.pow_succ', show (255 - t).succ = 256 - t by omega] at e
    rw [show 256 - (t + 1) = 255 - t by omega, ← e]
    by_cases hb : m / 2 ^ (255 - t) % 2 = 1
    · rw [bitJ_yes hb, hb, Ec.nm_one]
      exact plusR_rep (Ec.On.add fld hS hS) h h2
    · rw [bitJ_no hb, show m / 2 ^ (255 - t) % 2 = 0 by omega, show Ec.nm finv 0 (some (x, y)) = none from rfl, Ec.add_zero]
      exact h2
theorem word_bit (m i j : Nat) (hj : j < 64) : m / 2 ^ (64 * i) % 18446744073709551616 / 2 ^ (63 - j) % 2 = m / 2 ^ (64 * i + (63 - j)) % 2 := by
  rw [Nat.pow_add, ← Nat.div_div_eq_div_mul, show (18446744073709551616 : Nat) = 2 ^ (63 - j) * 2 ^ (j + 1) by rw [← Nat.pow_add, show 63 - j + (j + 1) = 64 by omega], Nat.mod_mul_right_div_self, Nat.pow_succ', Nat.mod_mul_right_mod]
theorem word_bit0 (m j : Nat) (hj : j < 64) : m % 18446744073709551616 / 2 ^ (63 - j) % 2 = m / 2 ^ (64 * 0 + (63 - j)) % 2 := by
  have q := word_bit m 0 j hj
  rw [Nat.mul_zero, Nat.pow_zero, Nat.div_one] at q
  exact q
def modN : Array Value := #[.int .u64 13822214165235122497, .int .u64 13451932020343611451, .int .u64 18446744073709551614, .int .u64 18446744073709551615, .int .u64 4624529908474429119, .int .u64 4994812053365940164, .int .u64 1]
theorem mulRe_none (w : World) (k x y : Nat) (i : Bool) (hk : k < K4) (hx : x < K4) (hy : y < K4) (h : dec x y i = none) : Calls Tryz.prog 42 #[fv k, pv x y i] w (Gets w (ptv none)) := by
  refine Sy.enter (args := [fv k, pv x y i]) Tryz.func42 rfl kL ?_
  refine sC ?_
  refine sM 24 (fcs k) (fun g0 => ?_)
  refine sM 52 (pcs x y i) (fun g1 => ?_)
  refine sM 52 (pcs 0 0 false) (fun g2 => ?_)
  refine sA ?_
  refine sS (pv x y i) (qL 1 g1 0 9 52 52 (pcs x y i) rfl Tryz.underlying52) <| sS (pv 0 0 true) (qF 88 #[pv x y i] (fun w => by have hrr := taken_c w x y i hx hy; rw [h] at hrr; exact hrr)) <| sW 1 g1 52 (pcs x y i) (pcs 0 0 true) (wS 0 52 (pcs 0 0 true) rfl) ?_
  refine sG ?_
  refine Sy.seq ?_
  refine sC ?_
  refine sP (.pointer (some ⟨g1, 8, none⟩)) <| sS (.bool true) (qC 1 g1 8 52 4 (pcs 0 0 true) rfl Tryz.underlying4) ?_
  refine sG ?_
  refine sT ?_
  refine sC ?_
  refine sS (pv 0 0 true) (qL 1 g1 0 9 52 52 (pcs 0 0 true) rfl Tryz.underlying52) <| sW 2 g2 52 (pcs 0 0 false) (pcs 0 0 true) (wS 0 52 (pcs 0 0 true) rfl) ?_
  refine sG ?_
  refine Sy.ret ?_
  refine Sy.then_ret ?_
  rw [show (ptv none : Value) = pv 0 0 true from rfl]
  exact rC (v := pv 0 0 true) 52 g2 2 (pcs 0 0 true) rfl Tryz.underlying52
theorem mulRe_some (w : World) (k x y : Nat) (i : Bool) (hk : k < K4) (hx : x < K4) (hy : y < K4) (u v : Fp) (h : dec x y i = some (u, v)) (ho : v * v = u * u * u + 7) : Calls Tryz.prog 42 #[fv k, pv x y i] w (Gets w (ptv (Ec.nm finv (k % Sc.pM) (some (u, v))))) := by
  obtain ⟨m, hm⟩ : ∃ m, m = k % Sc.pM := ⟨_, rfl⟩
  obtain ⟨Q, hQ⟩ : ∃ Q, Q = ptJ (bitJ m u v 256) := ⟨_, rfl⟩
  have hml : m < K4 := by rw [hm]; exact Sc.mod_lt k
  have hn : Ec.nm finv (k % Sc.pM) (some (u, v)) = Q := by
    have q := bitJ_rep (m := m) hml ho 256 (Nat.le_refl _)
    rw [Nat.sub_self, Nat.pow_zero, Nat.div_one] at q
    rw [← hm, hQ]
    exact (ptJ_rep q).symm
  rw [hn]
  refine Sy.enter (args := [fv k, pv x y i]) Tryz.func42 rfl kL ?_
  refine sC ?_
  refine sM 24 (fcs k) (fun g0 => ?_)
  refine sM 52 (pcs x y i) (fun g1 => ?_)
  refine sM 52 (pcs 0 0 false) (fun g2 => ?_)
  refine sA ?_
  refine sS (pv x y i) (qL 1 g1 0 9 52 52 (pcs x y i) rfl Tryz.underlying52) <| sS (pv u.val v.val false) (qF 88 #[pv x y i] (fun w => by have hrr := taken_c w x y i hx hy; rw [h] at hrr; exact hrr)) <| sW 1 g1 52 (pcs x y i) (pcs u.val v.val false) (wS 0 52 (pcs u.val v.val false) rfl) ?_
  refine sG ?_
  refine Sy.seq ?_
  refine sC ?_
  refine sP (.pointer (some ⟨g1, 8, none⟩)) <| sS (.bool false) (qC 1 g1 8 52 4 (pcs u.val v.val false) rfl Tryz.underlying4) ?_
  refine sG ?_
  refine sU ?_
  refine Sy.skip ?_
  refine sR (fun j => j == 5) ?_
  refine sD 0 rfl (.agg modN) (qF 76 #[] (Sc.refN_any)) <| sD 1 rfl (fv k) (qL 0 g0 0 4 24 24 (fcs k) rfl Tryz.underlying24) <| sD 2 rfl (fv k) (qF 77 #[fv k] (fun w => Sc.refOf_any w k lK)) <| sD 3 rfl (fv m) (qF 89 #[.agg modN, fv k] (fun w => by rw [hm]; exact Sc.normR_any w k hk)) ?_
  refine sO 4 rfl 89 (fcs 0) (fun g3 => ?_)
  refine sX 5 rfl 3 g3 89 (fcs 0) (fcs m) (wS 0 89 (fcs m) rfl) ?_
  refine sE ?_
  refine sB ?_
  refine sP (.pointer (some ⟨g1, 0, none⟩)) <| sS (fv u.val) (qL 1 g1 0 4 52 50 (pcs u.val v.val false) rfl Tryz.underlying50) <| sS (fv u.val) (qF 90 #[fv u.val] (fun w => refOf_any w u.val lK)) ?_
  refine sM 89 (fcs 0) (fun g4 => ?_)
  refine sW 4 g4 89 (fcs 0) (fcs u.val) (wS 0 89 (fcs u.val) rfl) ?_
  refine sA ?_
  refine sP (.pointer (some ⟨g1, 4, none⟩)) <| sS (fv v.val) (qL 1 g1 4 4 52 50 (pcs u.val v.val false) rfl Tryz.underlying50) <| sS (fv v.val) (qF 90 #[fv v.val] (fun w => refOf_any w v.val lK)) ?_
  refine sM 89 (fcs 0) (fun g5 => ?_)
  refine sW 5 g5 89 (fcs 0) (fcs v.val) (wS 0 89 (fcs v.val) rfl) ?_
  refine sA ?_
  refine sP (tv 0 0 0) ?_
  refine sM 127 (tcs 0 0 0) (fun g6 => ?_)
  refine sW 6 g6 127 (tcs 0 0 0) (tcs 0 0 0) (wS 0 127 (tcs 0 0 0) rfl) ?_
  refine sG ?_
  refine Sy.seq ?_
  refine sC ?_
  refine sP (.int .i64 3) ?_
  refine sG ?_
  refine Sy.block ?_
  refine Sy.loopN 5 ?_
  refine Sy.tidyR (G := [(4, .pointer (some ⟨g2, 0, none⟩)), (5, .pointer (some ⟨g3, 0, none⟩)), (6, .pointer (some ⟨g4, 0, none⟩)), (7, .pointer (some ⟨g5, 0, none⟩)), (8, .pointer (some ⟨g6, 0, none⟩)), (9, .int .i64 3)]) (M := [(g2, 52, (pcs 0 0 false)), (g3, 89, (fcs m)), (g4, 89, (fcs u.val)), (g5, 89, (fcs v.val)), (g6, 127, (tcs 0 0 0))]) [false, false, true, true, true, true, true] kR (all_cons kR (all_cons kR (all_cons kR (all_cons kR (all_cons kR (all_cons kR all_nil)))))) ?_
  refine Sy.round ?_
  refine Sy.seq ?_
  refine sC ?_
  refine sP (.int .i64 3) <| sP (.bool true) ?_
  refine sG ?_
  refine sT ?_
  refine Sy.skip ?_
  refine Sy.then_ ?_
  refine Sy.seq ?_
  refine Sy.block ?_
  refine sC ?_
  refine sP (.int .u64 9223372036854775808) ?_
  refine sG ?_
  refine Sy.block ?_
  refine Sy.loopK 64 (fun k2x0 => [(4, .pointer (some ⟨g2, 0, none⟩)), (5, .pointer (some ⟨g3, 0, none⟩)), (6, .pointer (some ⟨g4, 0, none⟩)), (7, .pointer (some ⟨g5, 0, none⟩)), (8, .pointer (some ⟨g6, 0, none⟩)), (9, .int .i64 3), (10, .int .u64 ((bt k2x0 : Nat) : Int))]) (fun k2x0 => [(g2, 52, (pcs 0 0 false)), (g3, 89, (fcs m)), (g4, 89, (fcs u.val)), (g5, 89, (fcs v.val)), (g6, 127, (tcs ((bitJ m u v (0 + k2x0)).x.val) ((bitJ m u v (0 + k2x0)).y.val) ((bitJ m u v (0 + k2x0)).z.val)))]) [true, true, true, true, true] (M := [(g2, 52, (pcs 0 0 false)), (g3, 89, (fcs m)), (g4, 89, (fcs u.val)), (g5, 89, (fcs v.val)), (g6, 127, (tcs 0 0 0))]) (all_cons kR (all_cons kR (all_cons kR (all_cons kR (all_cons kR (all_cons kR (all_cons kR all_nil))))))) kR (bcons rfl (bcons rfl (bcons rfl (bcons rfl (bcons rfl rfl))))) (fun k2x0 hk2x0 => ?_)
  refine Sy.seq ?_
  refine sC ?_
  refine sP (.int .u64 ((bt k2x0 : Nat) : Int)) ?_
  obtain ⟨b1, hb1⟩ : ∃ z : Bool, z = decide (k2x0 < 64) := ⟨_, rfl⟩
  refine sS (.bool b1) (Quiet.pure (exec_int .gtr _ _ _ .u64 _ _ _ rfl rfl rfl (int_gtr _ _ _ _ _ (by rw [hb1]; exact decide_eq_decide.2 (by rw [← bt_pos]; omega))))) ?_
  refine sG ?_
  cases b1
  · have lb1 : ¬ (k2x0 < 64) := of_decide_eq_false hb1.symm
    refine sU ?_
    refine Sy.exit ?_
    refine Sy.then_exit ?_
    refine Sy.then_exit ?_
    obtain rfl : k2x0 = 64 := by omega
    refine Sy.in_exit ?_
    refine Sy.in_ ?_
    refine Sy.then_ ?_
    refine Sy.region ?_
    refine sP (.int .i64 3) <| sP (.int .i64 2) <| sP (.int .i64 2) ?_
    refine Sy.nil ?_
    refine Sy.again ?_
    refine Sy.tidyR (G := [(4, .pointer (some ⟨g2, 0, none⟩)), (5, .pointer (some ⟨g3, 0, none⟩)), (6, .pointer (some ⟨g4, 0, none⟩)), (7, .pointer (some ⟨g5, 0, none⟩)), (8, .pointer (some ⟨g6, 0, none⟩)), (9, .int .i64 2)]) (M := [(g2, 52, (pcs 0 0 false)), (g3, 89, (fcs m)), (g4, 89, (fcs u.val)), (g5, 89, (fcs v.val)), (g6, 127, (tcs ((bitJ m u v (0 + 64)).x.val) ((bitJ m u v (0 + 64)).y.val) ((bitJ m u v (0 + 64)).z.val)))]) [true, true, true, true, true] kR (all_cons kR (all_cons kR (all_cons kR (all_cons kR (all_cons kR (all_cons kR all_nil)))))) ?_
    refine Sy.round ?_
    refine Sy.seq ?_
    refine sC ?_
    refine sP (.int .i64 2) <| sP (.bool true) ?_
    refine sG ?_
    refine sT ?_
    refine Sy.skip ?_
    refine Sy.then_ ?_
    refine Sy.seq ?_
    refine Sy.block ?_
    refine sC ?_
    refine sP (.int .u64 9223372036854775808) ?_
    refine sG ?_
    refine Sy.block ?_
    refine Sy.loopK 64 (fun k2x1 => [(4, .pointer (some ⟨g2, 0, none⟩)), (5, .pointer (some ⟨g3, 0, none⟩)), (6, .pointer (some ⟨g4, 0, none⟩)), (7, .pointer (some ⟨g5, 0, none⟩)), (8, .pointer (some ⟨g6, 0, none⟩)), (9, .int .i64 2), (10, .int .u64 ((bt k2x1 : Nat) : Int))]) (fun k2x1 => [(g2, 52, (pcs 0 0 false)), (g3, 89, (fcs m)), (g4, 89, (fcs u.val)), (g5, 89, (fcs v.val)), (g6, 127, (tcs ((bitJ m u v (64 + k2x1)).x.val) ((bitJ m u v (64 + k2x1)).y.val) ((bitJ m u v (64 + k2x1)).z.val)))]) [true, true, true, true, true] (M := [(g2, 52, (pcs 0 0 false)), (g3, 89, (fcs m)), (g4, 89, (fcs u.val)), (g5, 89, (fcs v.val)), (g6, 127, (tcs ((bitJ m u v (0 + 64)).x.val) ((bitJ m u v (0 + 64)).y.val) ((bitJ m u v (0 + 64)).z.val)))]) (all_cons kR (all_cons kR (all_cons kR (all_cons kR (all_cons kR (all_cons kR (all_cons kR all_nil))))))) kR (bcons rfl (bcons rfl (bcons rfl (bcons rfl (bcons rfl rfl))))) (fun k2x1 hk2x1 => ?_)
    refine Sy.seq ?_
    refine sC ?_
    refine sP (.int .u64 ((bt k2x1 : Nat) : Int)) ?_
    obtain ⟨b2, hb2⟩ : ∃ z : Bool, z = decide (k2x1 < 64) := ⟨_, rfl⟩
    refine sS (.bool b2) (Quiet.pure (exec_int .gtr _ _ _ .u64 _ _ _ rfl rfl rfl (int_gtr _ _ _ _ _ (by rw [hb2]; exact decide_eq_decide.2 (by rw [← bt_pos]; omega))))) ?_
    refine sG ?_
    cases b2
    · have lb2 : ¬ (k2x1 < 64) := of_decide_eq_false hb2.symm
      refine sU ?_
      refine Sy.exit ?_
      refine Sy.then_exit ?_
      refine Sy.then_exit ?_
      obtain rfl : k2x1 = 64 := by omega
      refine Sy.in_exit ?_
      refine Sy.in_ ?_
      refine Sy.then_ ?_
      refine Sy.region ?_
      refine sP (.int .i64 2) <| sP (.int .i64 1) <| sP (.int .i64 1) ?_
      refine Sy.nil ?_
      refine Sy.again ?_
      refine Sy.tidyR (G := [(4, .pointer (some ⟨g2, 0, none⟩)), (5, .pointer (some ⟨g3, 0, none⟩)), (6, .pointer (some ⟨g4, 0, none⟩)), (7, .pointer (some ⟨g5, 0, none⟩)), (8, .pointer (some ⟨g6, 0, none⟩)), (9, .int .i64 1)]) (M := [(g2, 52, (pcs 0 0 false)), (g3, 89, (fcs m)), (g4, 89, (fcs u.val)), (g5, 89, (fcs v.val)), (g6, 127, (tcs ((bitJ m u v (64 + 64)).x.val) ((bitJ m u v (64 + 64)).y.val) ((bitJ m u v (64 + 64)).z.val)))]) [true, true, true, true, true] kR (all_cons kR (all_cons kR (all_cons kR (all_cons kR (all_cons kR (all_cons kR all_nil)))))) ?_
      refine Sy.round ?_
      refine Sy.seq ?_
      refine sC ?_
      refine sP (.int .i64 1) <| sP (.bool true) ?_
      refine sG ?_
      refine sT ?_
      refine Sy.skip ?_
      refine Sy.then_ ?_
      refine Sy.seq ?_
      refine Sy.block ?_
      refine sC ?_
      refine sP (.int .u64 9223372036854775808) ?_
      refine sG ?_
      refine Sy.block ?_
      refine Sy.loopK 64 (fun k2x2 => [(4, .pointer (some ⟨g2, 0, none⟩)), (5, .pointer (some ⟨g3, 0, none⟩)), (6, .pointer (some ⟨g4, 0, none⟩)), (7, .pointer (some ⟨g5, 0, none⟩)), (8, .pointer (some ⟨g6, 0, none⟩)), (9, .int .i64 1), (10, .int .u64 ((bt k2x2 : Nat) : Int))]) (fun k2x2 => [(g2, 52, (pcs 0 0 false)), (g3, 89, (fcs m)), (g4, 89, (fcs u.val)), (g5, 89, (fcs v.val)), (g6, 127, (tcs ((bitJ m u v (128 + k2x2)).x.val) ((bitJ m u v (128 + k2x2)).y.val) ((bitJ m u v (128 + k2x2)).z.val)))]) [true, true, true, true, true] (M := [(g2, 52, (pcs 0 0 false)), (g3, 89, (fcs m)), (g4, 89, (fcs u.val)), (g5, 89, (fcs v.val)), (g6, 127, (tcs ((bitJ m u v (64 + 64)).x.val) ((bitJ m u v (64 + 64)).y.val) ((bitJ m u v (64 + 64)).z.val)))]) (all_cons kR (all_cons kR (all_cons kR (all_cons kR (all_cons kR (all_cons kR (all_cons kR all_nil))))))) kR (bcons rfl (bcons rfl (bcons rfl (bcons rfl (bcons rfl rfl))))) (fun k2x2 hk2x2 => ?_)
      refine Sy.seq ?_
      refine sC ?_
      refine sP (.int .u64 ((bt k2x2 : Nat) : Int)) ?_
      obtain ⟨b3, hb3⟩ : ∃ z : Bool, z = decide (k2x2 < 64) := ⟨_, rfl⟩
      refine sS (.bool b3) (Quiet.pure (exec_int .gtr _ _ _ .u64 _ _ _ rfl rfl rfl (int_gtr _ _ _ _ _ (by rw [hb3]; exact decide_eq_decide.2 (by rw [← bt_pos]; omega))))) ?_
      refine sG ?_
      cases b3
      · have lb3 : ¬ (k2x2 < 64) := of_decide_eq_false hb3.symm
        refine sU ?_
        refine Sy.exit ?_
        refine Sy.then_exit ?_
        refine Sy.then_exit ?_
        obtain rfl : k2x2 = 64 := by omega
        refine Sy.in_exit ?_
        refine Sy.in_ ?_
        refine Sy.then_ ?_
        refine Sy.region ?_
        refine sP (.int .i64 1) <| sP (.int .i64 0) <| sP (.int .i64 0) ?_
        refine Sy.nil ?_
        refine Sy.again ?_
        refine Sy.tidyR (G := [(4, .pointer (some ⟨g2, 0, none⟩)), (5, .pointer (some ⟨g3, 0, none⟩)), (6, .pointer (some ⟨g4, 0, none⟩)), (7, .pointer (some ⟨g5, 0, none⟩)), (8, .pointer (some ⟨g6, 0, none⟩)), (9, .int .i64 0)]) (M := [(g2, 52, (pcs 0 0 false)), (g3, 89, (fcs m)), (g4, 89, (fcs u.val)), (g5, 89, (fcs v.val)), (g6, 127, (tcs ((bitJ m u v (128 + 64)).x.val) ((bitJ m u v (128 + 64)).y.val) ((bitJ m u v (128 + 64)).z.val)))]) [true, true, true, true, true] kR (all_cons kR (all_cons kR (all_cons kR (all_cons kR (all_cons kR (all_cons kR all_nil)))))) ?_
        refine Sy.round ?_
        refine Sy.seq ?_
        refine sC ?_
        refine sP (.int .i64 0) <| sP (.bool true) ?_
        refine sG ?_
        refine sT ?_
        refine Sy.skip ?_
        refine Sy.then_ ?_
        refine Sy.seq ?_
        refine Sy.block ?_
        refine sC ?_
        refine sP (.int .u64 9223372036854775808) ?_
        refine sG ?_
        refine Sy.block ?_
        refine Sy.loopK 64 (fun k2x3 => [(4, .pointer (some ⟨g2, 0, none⟩)), (5, .pointer (some ⟨g3, 0, none⟩)), (6, .pointer (some ⟨g4, 0, none⟩)), (7, .pointer (some ⟨g5, 0, none⟩)), (8, .pointer (some ⟨g6, 0, none⟩)), (9, .int .i64 0), (10, .int .u64 ((bt k2x3 : Nat) : Int))]) (fun k2x3 => [(g2, 52, (pcs 0 0 false)), (g3, 89, (fcs m)), (g4, 89, (fcs u.val)), (g5, 89, (fcs v.val)), (g6, 127, (tcs ((bitJ m u v (192 + k2x3)).x.val) ((bitJ m u v (192 + k2x3)).y.val) ((bitJ m u v (192 + k2x3)).z.val)))]) [true, true, true, true, true] (M := [(g2, 52, (pcs 0 0 false)), (g3, 89, (fcs m)), (g4, 89, (fcs u.val)), (g5, 89, (fcs v.val)), (g6, 127, (tcs ((bitJ m u v (128 + 64)).x.val) ((bitJ m u v (128 + 64)).y.val) ((bitJ m u v (128 + 64)).z.val)))]) (all_cons kR (all_cons kR (all_cons kR (all_cons kR (all_cons kR (all_cons kR (all_cons kR all_nil))))))) kR (bcons rfl (bcons rfl (bcons rfl (bcons rfl (bcons rfl rfl))))) (fun k2x3 hk2x3 => ?_)
        refine Sy.seq ?_
        refine sC ?_
        refine sP (.int .u64 ((bt k2x3 : Nat) : Int)) ?_
        obtain ⟨b4, hb4⟩ : ∃ z : Bool, z = decide (k2x3 < 64) := ⟨_, rfl⟩
        refine sS (.bool b4) (Quiet.pure (exec_int .gtr _ _ _ .u64 _ _ _ rfl rfl rfl (int_gtr _ _ _ _ _ (by rw [hb4]; exact decide_eq_decide.2 (by rw [← bt_pos]; omega))))) ?_
        refine sG ?_
        cases b4
        · have lb4 : ¬ (k2x3 < 64) := of_decide_eq_false hb4.symm
          refine sU ?_
          refine Sy.exit ?_
          refine Sy.then_exit ?_
          refine Sy.then_exit ?_
          obtain rfl : k2x3 = 64 := by omega
          refine Sy.in_exit ?_
          refine Sy.in_ ?_
          refine Sy.then_ ?_
          refine Sy.region ?_
          refine sP (.int .i64 0) <| sP (.int .i64 (-1)) <| sP (.int .i64 (-1)) ?_
          refine Sy.nil ?_
          refine Sy.again ?_
          refine Sy.tidyR (G := [(4, .pointer (some ⟨g2, 0, none⟩)), (5, .pointer (some ⟨g3, 0, none⟩)), (6, .pointer (some ⟨g4, 0, none⟩)), (7, .pointer (some ⟨g5, 0, none⟩)), (8, .pointer (some ⟨g6, 0, none⟩)), (9, .int .i64 (-1))]) (M := [(g2, 52, (pcs 0 0 false)), (g3, 89, (fcs m)), (g4, 89, (fcs u.val)), (g5, 89, (fcs v.val)), (g6, 127, (tcs ((bitJ m u v (192 + 64)).x.val) ((bitJ m u v (192 + 64)).y.val) ((bitJ m u v (192 + 64)).z.val)))]) [true, true, true, true, true] kR (all_cons kR (all_cons kR (all_cons kR (all_cons kR (all_cons kR (all_cons kR all_nil)))))) ?_
          refine Sy.round ?_
          refine Sy.seq ?_
          refine sC ?_
          refine sP (.int .i64 (-1)) <| sP (.bool false) ?_
          refine sG ?_
          refine sU ?_
          refine Sy.exit ?_
          refine Sy.then_exit ?_
          refine Sy.then_exit ?_
          refine Sy.in_exit ?_
          refine Sy.then_ ?_
          refine Sy.seq ?_
          refine sC ?_
          refine sP (.pointer (some ⟨g6, 8, none⟩)) <| sS (fv ((bitJ m u v (192 + 64)).z.val)) (qL 4 g6 8 4 127 89 (tcs ((bitJ m u v (192 + 64)).x.val) ((bitJ m u v (192 + 64)).y.val) ((bitJ m u v (192 + 64)).z.val)) rfl Tryz.underlying89) <| sP (fv 0) ?_
          obtain ⟨b5, hb5⟩ : ∃ z : Bool, z = decide ((bitJ m u v (192 + 64)).z.val = 0) := ⟨_, rfl⟩
          refine sS (.bool b5) (Quiet.pure (fun w => by rw [hb5]; exact eql_num w _ _ _ _ _ _ rfl rfl rfl lK lK)) ?_
          refine sG ?_
          cases b5
          · have eb5 : (bitJ m u v (192 + 64)).z ≠ (0 : Fp) := fun e => of_decide_eq_false hb5.symm (congrArg Fin.val e)
            refine sU ?_
            refine Sy.skip ?_
            refine sR (fun j => j == 5) ?_
            refine sD 0 rfl (.agg modcs) (qF 56 #[] (refP_any)) <| sZ 1 rfl (.pointer (some ⟨g6, 8, none⟩)) <| sD 2 rfl (fv ((bitJ m u v (192 + 64)).z.val)) (qL 4 g6 8 4 127 89 (tcs ((bitJ m u v (192 + 64)).x.val) ((bitJ m u v (192 + 64)).y.val) ((bitJ m u v (192 + 64)).z.val)) rfl Tryz.underlying89) ?_
            obtain ⟨z1, hz1⟩ : ∃ z : Fp, z = finv (bitJ m u v (192 + 64)).z := ⟨_, rfl⟩
            refine sD 3 rfl (fv z1.val) (qF 93 #[.agg modcs, fv ((bitJ m u v (192 + 64)).z.val)] (fun w => by rw [hz1]; exact refinv_c w (bitJ m u v (192 + 64)).z)) ?_
            refine sO 4 rfl 89 (fcs 0) (fun g7 => ?_)
            refine sX 5 rfl 5 g7 89 (fcs 0) (fcs z1.val) (wS 0 89 (fcs z1.val) rfl) ?_
            refine sE ?_
            refine sB ?_
            refine sS (fv z1.val) (qL 5 g7 0 4 89 89 (fcs z1.val) rfl Tryz.underlying89) <| sS (fv z1.val) (qL 5 g7 0 4 89 89 (fcs z1.val) rfl Tryz.underlying89) ?_
            obtain ⟨z2, hz2⟩ : ∃ z : Fp, z = z1 * z1 := ⟨_, rfl⟩
            refine sS (fv z2.val) (qF 94 #[fv z1.val, fv z1.val] (fun w => by rw [hz2]; exact mulR_c w z1 z1)) ?_
            refine sM 89 (fcs 0) (fun g8 => ?_)
            refine sW 6 g8 89 (fcs 0) (fcs z2.val) (wS 0 89 (fcs z2.val) rfl) ?_
            refine sH (fun j => j == 11) ?_
            refine sZ 0 rfl (.pointer (some ⟨g6, 0, none⟩)) <| sD 1 rfl (fv ((bitJ m u v (192 + 64)).x.val)) (qL 4 g6 0 4 127 89 (tcs ((bitJ m u v (192 + 64)).x.val) ((bitJ m u v (192 + 64)).y.val) ((bitJ m u v (192 + 64)).z.val)) rfl Tryz.underlying89) <| sD 2 rfl (fv z2.val) (qL 6 g8 0 4 89 89 (fcs z2.val) rfl Tryz.underlying89) ?_
            obtain ⟨z3, hz3⟩ : ∃ z : Fp, z = (bitJ m u v (192 + 64)).x * z2 := ⟨_, rfl⟩
            refine sD 3 rfl (fv z3.val) (qF 94 #[fv ((bitJ m u v (192 + 64)).x.val), fv z2.val] (fun w => by rw [hz3]; exact mulR_c w (bitJ m u v (192 + 64)).x z2)) <| sZ 4 rfl (.pointer (some ⟨g6, 4, none⟩)) <| sD 5 rfl (fv ((bitJ m u v (192 + 64)).y.val)) (qL 4 g6 4 4 127 89 (tcs ((bitJ m u v (192 + 64)).x.val) ((bitJ m u v (192 + 64)).y.val) ((bitJ m u v (192 + 64)).z.val)) rfl Tryz.underlying89) <| sD 6 rfl (fv z2.val) (qL 6 g8 0 4 89 89 (fcs z2.val) rfl Tryz.underlying89) <| sD 7 rfl (fv z1.val) (qL 5 g7 0 4 89 89 (fcs z1.val) rfl Tryz.underlying89) ?_
            obtain ⟨z4, hz4⟩ : ∃ z : Fp, z = z2 * z1 := ⟨_, rfl⟩
            refine sD 8 rfl (fv z4.val) (qF 94 #[fv z2.val, fv z1.val] (fun w => by rw [hz4]; exact mulR_c w z2 z1)) ?_
            obtain ⟨z5, hz5⟩ : ∃ z : Fp, z = (bitJ m u v (192 + 64)).y * z4 := ⟨_, rfl⟩
            refine sD 9 rfl (fv z5.val) (qF 94 #[fv ((bitJ m u v (192 + 64)).y.val), fv z4.val] (fun w => by rw [hz5]; exact mulR_c w (bitJ m u v (192 + 64)).y z4)) <| sD 10 rfl (pv z3.val z5.val false) (qF 95 #[fv z3.val, fv z5.val] (fun w => pointR_c w z3.val z5.val lK lK)) <| sX 11 rfl 0 g2 52 (pcs 0 0 false) (pcs z3.val z5.val false) (wS 0 52 (pcs z3.val z5.val false) rfl) ?_
            refine sI ?_
            refine Sy.ret ?_
            rw [show (ptv Q : Value) = pv z3.val z5.val false from by rw [hQ]; unfold ptJ; rw [if_neg eb5]; unfold ptv; simp only [hz5, hz4, hz3, hz2, hz1]]
            exact rC (v := pv z3.val z5.val false) 52 g2 0 (pcs z3.val z5.val false) rfl Tryz.underlying52
          · have eb5 : (bitJ m u v (192 + 64)).z = (0 : Fp) := Fin.ext (of_decide_eq_true hb5.symm)
            refine sT ?_
            refine sC ?_
            refine sS (pv 0 0 true) (qF 62 #[] (zeroR_c)) <| sW 0 g2 52 (pcs 0 0 false) (pcs 0 0 true) (wS 0 52 (pcs 0 0 true) rfl) ?_
            refine sG ?_
            refine Sy.ret ?_
            refine Sy.then_ret ?_
            rw [show (ptv Q : Value) = pv 0 0 true from by rw [hQ]; unfold ptJ; rw [if_pos eb5]; rfl]
            exact rC (v := pv 0 0 true) 52 g2 0 (pcs 0 0 true) rfl Tryz.underlying52
        · have lb4 : k2x3 < 64 := of_decide_eq_true hb4.symm
          refine sT ?_
          refine Sy.skip ?_
          refine Sy.then_ ?_
          refine Sy.seq ?_
          refine Sy.block ?_
          refine sC ?_
          refine sS (tv ((bitJ m u v (192 + k2x3)).x.val) ((bitJ m u v (192 + k2x3)).y.val) ((bitJ m u v (192 + k2x3)).z.val)) (qL 4 g6 0 12 127 127 (tcs ((bitJ m u v (192 + k2x3)).x.val) ((bitJ m u v (192 + k2x3)).y.val) ((bitJ m u v (192 + k2x3)).z.val)) rfl Tryz.underlying127) ?_
          obtain ⟨j1, hj1⟩ : ∃ z : J, z = dblR (bitJ m u v (192 + k2x3)) := ⟨_, rfl⟩
          refine sS (tv j1.x.val j1.y.val j1.z.val) (qF 91 #[tv ((bitJ m u v (192 + k2x3)).x.val) ((bitJ m u v (192 + k2x3)).y.val) ((bitJ m u v (192 + k2x3)).z.val)] (fun w => by rw [hj1]; exact twiceR_c w (bitJ m u v (192 + k2x3)))) <| sW 4 g6 127 (tcs ((bitJ m u v (192 + k2x3)).x.val) ((bitJ m u v (192 + k2x3)).y.val) ((bitJ m u v (192 + k2x3)).z.val)) (tcs j1.x.val j1.y.val j1.z.val) (wS 0 127 (tcs j1.x.val j1.y.val j1.z.val) rfl) ?_
          refine sA ?_
          refine sP (.int .i64 0) <| sP (.pointer (some ⟨g3, 0, none⟩)) <| sS (qv (m % 18446744073709551616)) (qC 1 g3 0 89 22 (fcs m) rfl Tryz.underlying22) <| sP (.int .u64 ((bt k2x3 : Nat) : Int)) <| sS (.int .u64 (((m % 18446744073709551616) &&& bt k2x3 : Nat) : Int)) (Quiet.pure (exec_and _ _ _ _ _ (m % 18446744073709551616) (bt k2x3) (Nat.mod_lt _ (by decide)) (bt_le _) rfl rfl rfl)) ?_
          obtain ⟨b6, hb6⟩ : ∃ z : Bool, z = decide ((m % 18446744073709551616) &&& bt k2x3 ≠ 0) := ⟨_, rfl⟩
          refine sS (.bool b6) (Quiet.pure (exec_int .neq _ _ _ .u64 _ _ _ rfl rfl rfl (int_neq _ _ _ _ _ (by rw [hb6]; exact decide_eq_decide.2 (by omega))))) ?_
          refine sG ?_
          cases b6
          · have lb6 : ¬ ((m % 18446744073709551616) &&& bt k2x3 ≠ 0) := of_decide_eq_false hb6.symm
            have fb6 : ¬ m / 2 ^ (255 - (192 + k2x3)) % 2 = 1 := by
              have q := and_bt (m % 18446744073709551616) k2x3 (by omega)
              have q2 := word_bit0 m k2x3 (by omega)
              rw [show 64 * 0 + (63 - k2x3) = 255 - (192 + k2x3) by omega] at q2
              rw [← q2]
              exact fun t => lb6 (q.2 t)
            refine sU ?_
            refine Sy.skip ?_
            refine Sy.in_ ?_
            refine Sy.then_ ?_
            refine Sy.region ?_
            refine sP (.int .u64 ((bt k2x3 : Nat) : Int)) <| sS (.int .u64 ((bt (k2x3 + 1) : Nat) : Int)) (Quiet.pure (exec_int .quo _ _ _ .u64 _ _ _ rfl rfl rfl (int_quo _ _ _ _ _ (by decide) (by rw [← bt_next]; have := bt_le k2x3; rw [show ((bt k2x3 : Nat) : Int).tdiv 2 = ((bt k2x3 / 2 : Nat) : Int) from rfl]; exact wrap_u64 (by omega) (by omega))))) <| sP (.int .u64 ((bt (k2x3 + 1) : Nat) : Int)) ?_
            refine Sy.nil ?_
            exact Sy.againK [true, true, true, true, true] (M := [(g2, 52, (pcs 0 0 false)), (g3, 89, (fcs m)), (g4, 89, (fcs u.val)), (g5, 89, (fcs v.val)), (g6, 127, (tcs j1.x.val j1.y.val j1.z.val))]) (by omega) (all_cons kR (all_cons kR (all_cons kR (all_cons kR (all_cons kR (all_cons kR (all_cons kR all_nil))))))) kR (bcons rfl (bcons rfl (bcons rfl (bcons rfl (bcons (beq (by rw [hj1, ← bitJ_no fb6]; rfl)) rfl)))))
          · have lb6 : (m % 18446744073709551616) &&& bt k2x3 ≠ 0 := of_decide_eq_true hb6.symm
            have fb6 :  m / 2 ^ (255 - (192 + k2x3)) % 2 = 1 := by
              have q := and_bt (m % 18446744073709551616) k2x3 (by omega)
              have q2 := word_bit0 m k2x3 (by omega)
              rw [show 64 * 0 + (63 - k2x3) = 255 - (192 + k2x3) by omega] at q2
              rw [← q2]
              exact q.1 lb6
            refine sT ?_
            refine Sy.region ?_
            refine sS (tv j1.x.val j1.y.val j1.z.val) (qL 4 g6 0 12 127 127 (tcs j1.x.val j1.y.val j1.z.val) rfl Tryz.underlying127) <| sS (fv u.val) (qL 2 g4 0 4 89 89 (fcs u.val) rfl Tryz.underlying89) <| sS (fv v.val) (qL 3 g5 0 4 89 89 (fcs v.val) rfl Tryz.underlying89) ?_
            obtain ⟨j2, hj2⟩ : ∃ z : J, z = plusR j1 u v := ⟨_, rfl⟩
            refine sS (tv j2.x.val j2.y.val j2.z.val) (qF 92 #[tv j1.x.val j1.y.val j1.z.val, fv u.val, fv v.val] (fun w => by rw [hj2]; exact plusR_c w j1 u v)) <| sW 4 g6 127 (tcs j1.x.val j1.y.val j1.z.val) (tcs j2.x.val j2.y.val j2.z.val) (wS 0 127 (tcs j2.x.val j2.y.val j2.z.val) rfl) ?_
            refine Sy.nil ?_
            refine Sy.in_ ?_
            refine Sy.then_ ?_
            refine Sy.region ?_
            refine sP (.int .u64 ((bt k2x3 : Nat) : Int)) <| sS (.int .u64 ((bt (k2x3 + 1) : Nat) : Int)) (Quiet.pure (exec_int .quo _ _ _ .u64 _ _ _ rfl rfl rfl (int_quo _ _ _ _ _ (by decide) (by rw [← bt_next]; have := bt_le k2x3; rw [show ((bt k2x3 : Nat) : Int).tdiv 2 = ((bt k2x3 / 2 : Nat) : Int) from rfl]; exact wrap_u64 (by omega) (by omega))))) <| sP (.int .u64 ((bt (k2x3 + 1) : Nat) : Int)) ?_
            refine Sy.nil ?_
            exact Sy.againK [true, true, true, true, true] (M := [(g2, 52, (pcs 0 0 false)), (g3, 89, (fcs m)), (g4, 89, (fcs u.val)), (g5, 89, (fcs v.val)), (g6, 127, (tcs j2.x.val j2.y.val j2.z.val))]) (by omega) (all_cons kR (all_cons kR (all_cons kR (all_cons kR (all_cons kR (all_cons kR (all_cons kR all_nil))))))) kR (bcons rfl (bcons rfl (bcons rfl (bcons rfl (bcons (beq (by rw [hj2, hj1, ← bitJ_yes fb6]; rfl)) rfl)))))
      · have lb3 : k2x2 < 64 := of_decide_eq_true hb3.symm
        refine sT ?_
        refine Sy.skip ?_
        refine Sy.then_ ?_
        refine Sy.seq ?_
        refine Sy.block ?_
        refine sC ?_
        refine sS (tv ((bitJ m u v (128 + k2x2)).x.val) ((bitJ m u v (128 + k2x2)).y.val) ((bitJ m u v (128 + k2x2)).z.val)) (qL 4 g6 0 12 127 127 (tcs ((bitJ m u v (128 + k2x2)).x.val) ((bitJ m u v (128 + k2x2)).y.val) ((bitJ m u v (128 + k2x2)).z.val)) rfl Tryz.underlying127) ?_
        obtain ⟨j3, hj3⟩ : ∃ z : J, z = dblR (bitJ m u v (128 + k2x2)) := ⟨_, rfl⟩
        refine sS (tv j3.x.val j3.y.val j3.z.val) (qF 91 #[tv ((bitJ m u v (128 + k2x2)).x.val) ((bitJ m u v (128 + k2x2)).y.val) ((bitJ m u v (128 + k2x2)).z.val)] (fun w => by rw [hj3]; exact twiceR_c w (bitJ m u v (128 + k2x2)))) <| sW 4 g6 127 (tcs ((bitJ m u v (128 + k2x2)).x.val) ((bitJ m u v (128 + k2x2)).y.val) ((bitJ m u v (128 + k2x2)).z.val)) (tcs j3.x.val j3.y.val j3.z.val) (wS 0 127 (tcs j3.x.val j3.y.val j3.z.val) rfl) ?_
        refine sA ?_
        refine sP (.int .i64 1) <| sP (.pointer (some ⟨g3, 1, none⟩)) <| sS (qv (m / 18446744073709551616 % 18446744073709551616)) (qC 1 g3 1 89 22 (fcs m) rfl Tryz.underlying22) <| sP (.int .u64 ((bt k2x2 : Nat) : Int)) <| sS (.int .u64 (((m / 18446744073709551616 % 18446744073709551616) &&& bt k2x2 : Nat) : Int)) (Quiet.pure (exec_and _ _ _ _ _ (m / 18446744073709551616 % 18446744073709551616) (bt k2x2) (Nat.mod_lt _ (by decide)) (bt_le _) rfl rfl rfl)) ?_
        obtain ⟨b7, hb7⟩ : ∃ z : Bool, z = decide ((m / 18446744073709551616 % 18446744073709551616) &&& bt k2x2 ≠ 0) := ⟨_, rfl⟩
        refine sS (.bool b7) (Quiet.pure (exec_int .neq _ _ _ .u64 _ _ _ rfl rfl rfl (int_neq _ _ _ _ _ (by rw [hb7]; exact decide_eq_decide.2 (by omega))))) ?_
        refine sG ?_
        cases b7
        · have lb7 : ¬ ((m / 18446744073709551616 % 18446744073709551616) &&& bt k2x2 ≠ 0) := of_decide_eq_false hb7.symm
          have fb7 : ¬ m / 2 ^ (255 - (128 + k2x2)) % 2 = 1 := by
            have q := and_bt (m / 18446744073709551616 % 18446744073709551616) k2x2 (by omega)
            have q2 := word_bit m 1 k2x2 (by omega)
            rw [show 64 * 1 + (63 - k2x2) = 255 - (128 + k2x2) by omega] at q2
            rw [← q2]
            exact fun t => lb7 (q.2 t)
          refine sU ?_
          refine Sy.skip ?_
          refine Sy.in_ ?_
          refine Sy.then_ ?_
          refine Sy.region ?_
          refine sP (.int .u64 ((bt k2x2 : Nat) : Int)) <| sS (.int .u64 ((bt (k2x2 + 1) : Nat) : Int)) (Quiet.pure (exec_int .quo _ _ _ .u64 _ _ _ rfl rfl rfl (int_quo _ _ _ _ _ (by decide) (by rw [← bt_next]; have := bt_le k2x2; rw [show ((bt k2x2 : Nat) : Int).tdiv 2 = ((bt k2x2 / 2 : Nat) : Int) from rfl]; exact wrap_u64 (by omega) (by omega))))) <| sP (.int .u64 ((bt (k2x2 + 1) : Nat) : Int)) ?_
          refine Sy.nil ?_
          exact Sy.againK [true, true, true, true, true] (M := [(g2, 52, (pcs 0 0 false)), (g3, 89, (fcs m)), (g4, 89, (fcs u.val)), (g5, 89, (fcs v.val)), (g6, 127, (tcs j3.x.val j3.y.val j3.z.val))]) (by omega) (all_cons kR (all_cons kR (all_cons kR (all_cons kR (all_cons kR (all_cons kR (all_cons kR all_nil))))))) kR (bcons rfl (bcons rfl (bcons rfl (bcons rfl (bcons (beq (by rw [hj3, ← bitJ_no fb7]; rfl)) rfl)))))
        · have lb7 : (m / 18446744073709551616 % 18446744073709551616) &&& bt k2x2 ≠ 0 := of_decide_eq_true hb7.symm
          have fb7 :  m / 2 ^ (255 - (128 + k2x2)) % 2 = 1 := by
            have q := and_bt (m / 18446744073709551616 % 18446744073709551616) k2x2 (by omega)
            have q2 := word_bit m 1 k2x2 (by omega)
            rw [show 64 * 1 + (63 - k2x2) = 255 - (128 + k2x2) by omega] at q2
            rw [← q2]
            exact q.1 lb7
          refine sT ?_
          refine Sy.region ?_
          refine sS (tv j3.x.val j3.y.val j3.z.val) (qL 4 g6 0 12 127 127 (tcs j3.x.val j3.y.val j3.z.val) rfl Tryz.underlying127) <| sS (fv u.val) (qL 2 g4 0 4 89 89 (fcs u.val) rfl Tryz.underlying89) <| sS (fv v.val) (qL 3 g5 0 4 89 89 (fcs v.val) rfl Tryz.underlying89) ?_
          obtain ⟨j4, hj4⟩ : ∃ z : J, z = plusR j3 u v := ⟨_, rfl⟩
          refine sS (tv j4.x.val j4.y.val j4.z.val) (qF 92 #[tv j3.x.val j3.y.val j3.z.val, fv u.val, fv v.val] (fun w => by rw [hj4]; exact plusR_c w j3 u v)) <| sW 4 g6 127 (tcs j3.x.val j3.y.val j3.z.val) (tcs j4.x.val j4.y.val j4.z.val) (wS 0 127 (tcs j4.x.val j4.y.val j4.z.val) rfl) ?_
          refine Sy.nil ?_
          refine Sy.in_ ?_
          refine Sy.then_ ?_
          refine Sy.region ?_
          refine sP (.int .u64 ((bt k2x2 : Nat) : Int)) <| sS (.int .u64 ((bt (k2x2 + 1) : Nat) : Int)) (Quiet.pure (exec_int .quo _ _ _ .u64 _ _ _ rfl rfl rfl (int_quo _ _ _ _ _ (by decide) (by rw [← bt_next]; have := bt_le k2x2; rw [show ((bt k2x2 : Nat) : Int).tdiv 2 = ((bt k2x2 / 2 : Nat) : Int) from rfl]; exact wrap_u64 (by omega) (by omega))))) <| sP (.int .u64 ((bt (k2x2 + 1) : Nat) : Int)) ?_
          refine Sy.nil ?_
          exact Sy.againK [true, true, true, true, true] (M := [(g2, 52, (pcs 0 0 false)), (g3, 89, (fcs m)), (g4, 89, (fcs u.val)), (g5, 89, (fcs v.val)), (g6, 127, (tcs j4.x.val j4.y.val j4.z.val))]) (by omega) (all_cons kR (all_cons kR (all_cons kR (all_cons kR (all_cons kR (all_cons kR (all_cons kR all_nil))))))) kR (bcons rfl (bcons rfl (bcons rfl (bcons rfl (bcons (beq (by rw [hj4, hj3, ← bitJ_yes fb7]; rfl)) rfl)))))
    · have lb2 : k2x1 < 64 := of_decide_eq_true hb2.symm
      refine sT ?_
      refine Sy.skip ?_
      refine Sy.then_ ?_
      refine Sy.seq ?_
      refine Sy.block ?_
      refine sC ?_
      refine sS (tv ((bitJ m u v (64 + k2x1)).x.val) ((bitJ m u v (64 + k2x1)).y.val) ((bitJ m u v (64 + k2x1)).z.val)) (qL 4 g6 0 12 127 127 (tcs ((bitJ m u v (64 + k2x1)).x.val) ((bitJ m u v (64 + k2x1)).y.val) ((bitJ m u v (64 + k2x1)).z.val)) rfl Tryz.underlying127) ?_
      obtain ⟨j5, hj5⟩ : ∃ z : J, z = dblR (bitJ m u v (64 + k2x1)) := ⟨_, rfl⟩
      refine sS (tv j5.x.val j5.y.val j5.z.val) (qF 91 #[tv ((bitJ m u v (64 + k2x1)).x.val) ((bitJ m u v (64 + k2x1)).y.val) ((bitJ m u v (64 + k2x1)).z.val)] (fun w => by rw [hj5]; exact twiceR_c w (bitJ m u v (64 + k2x1)))) <| sW 4 g6 127 (tcs ((bitJ m u v (64 + k2x1)).x.val) ((bitJ m u v (64 + k2x1)).y.val) ((bitJ m u v (64 + k2x1)).z.val)) (tcs j5.x.val j5.y.val j5.z.val) (wS 0 127 (tcs j5.x.val j5.y.val j5.z.val) rfl) ?_
      refine sA ?_
      refine sP (.int .i64 2) <| sP (.pointer (some ⟨g3, 2, none⟩)) <| sS (qv (m / 340282366920938463463374607431768211456 % 18446744073709551616)) (qC 1 g3 2 89 22 (fcs m) rfl Tryz.underlying22) <| sP (.int .u64 ((bt k2x1 : Nat) : Int)) <| sS (.int .u64 (((m / 340282366920938463463374607431768211456 % 18446744073709551616) &&& bt k2x1 : Nat) : Int)) (Quiet.pure (exec_and _ _ _ _ _ (m / 340282366920938463463374607431768211456 % 18446744073709551616) (bt k2x1) (Nat.mod_lt _ (by decide)) (bt_le _) rfl rfl rfl)) ?_
      obtain ⟨b8, hb8⟩ : ∃ z : Bool, z = decide ((m / 340282366920938463463374607431768211456 % 18446744073709551616) &&& bt k2x1 ≠ 0) := ⟨_, rfl⟩
      refine sS (.bool b8) (Quiet.pure (exec_int .neq _ _ _ .u64 _ _ _ rfl rfl rfl (int_neq _ _ _ _ _ (by rw [hb8]; exact decide_eq_decide.2 (by omega))))) ?_
      refine sG ?_
      cases b8
      · have lb8 : ¬ ((m / 340282366920938463463374607431768211456 % 18446744073709551616) &&& bt k2x1 ≠ 0) := of_decide_eq_false hb8.symm
        have fb8 : ¬ m / 2 ^ (255 - (64 + k2x1)) % 2 = 1 := by
          have q := and_bt (m / 340282366920938463463374607431768211456 % 18446744073709551616) k2x1 (by omega)
          have q2 := word_bit m 2 k2x1 (by omega)
          rw [show 64 * 2 + (63 - k2x1) = 255 - (64 + k2x1) by omega] at q2
          rw [← q2]
          exact fun t => lb8 (q.2 t)
        refine sU ?_
        refine Sy.skip ?_
        refine Sy.in_ ?_
        refine Sy.then_ ?_
        refine Sy.region ?_
        refine sP (.int .u64 ((bt k2x1 : Nat) : Int)) <| sS (.int .u64 ((bt (k2x1 + 1) : Nat) : Int)) (Quiet.pure (exec_int .quo _ _ _ .u64 _ _ _ rfl rfl rfl (int_quo _ _ _ _ _ (by decide) (by rw [← bt_next]; have := bt_le k2x1; rw [show ((bt k2x1 : Nat) : Int).tdiv 2 = ((bt k2x1 / 2 : Nat) : Int) from rfl]; exact wrap_u64 (by omega) (by omega))))) <| sP (.int .u64 ((bt (k2x1 + 1) : Nat) : Int)) ?_
        refine Sy.nil ?_
        exact Sy.againK [true, true, true, true, true] (M := [(g2, 52, (pcs 0 0 false)), (g3, 89, (fcs m)), (g4, 89, (fcs u.val)), (g5, 89, (fcs v.val)), (g6, 127, (tcs j5.x.val j5.y.val j5.z.val))]) (by omega) (all_cons kR (all_cons kR (all_cons kR (all_cons kR (all_cons kR (all_cons kR (all_cons kR all_nil))))))) kR (bcons rfl (bcons rfl (bcons rfl (bcons rfl (bcons (beq (by rw [hj5, ← bitJ_no fb8]; rfl)) rfl)))))
      · have lb8 : (m / 340282366920938463463374607431768211456 % 18446744073709551616) &&& bt k2x1 ≠ 0 := of_decide_eq_true hb8.symm
        have fb8 :  m / 2 ^ (255 - (64 + k2x1)) % 2 = 1 := by
          have q := and_bt (m / 340282366920938463463374607431768211456 % 18446744073709551616) k2x1 (by omega)
          have q2 := word_bit m 2 k2x1 (by omega)
          rw [show 64 * 2 + (63 - k2x1) = 255 - (64 + k2x1) by omega] at q2
          rw [← q2]
          exact q.1 lb8
        refine sT ?_
        refine Sy.region ?_
        refine sS (tv j5.x.val j5.y.val j5.z.val) (qL 4 g6 0 12 127 127 (tcs j5.x.val j5.y.val j5.z.val) rfl Tryz.underlying127) <| sS (fv u.val) (qL 2 g4 0 4 89 89 (fcs u.val) rfl Tryz.underlying89) <| sS (fv v.val) (qL 3 g5 0 4 89 89 (fcs v.val) rfl Tryz.underlying89) ?_
        obtain ⟨j6, hj6⟩ : ∃ z : J, z = plusR j5 u v := ⟨_, rfl⟩
        refine sS (tv j6.x.val j6.y.val j6.z.val) (qF 92 #[tv j5.x.val j5.y.val j5.z.val, fv u.val, fv v.val] (fun w => by rw [hj6]; exact plusR_c w j5 u v)) <| sW 4 g6 127 (tcs j5.x.val j5.y.val j5.z.val) (tcs j6.x.val j6.y.val j6.z.val) (wS 0 127 (tcs j6.x.val j6.y.val j6.z.val) rfl) ?_
        refine Sy.nil ?_
        refine Sy.in_ ?_
        refine Sy.then_ ?_
        refine Sy.region ?_
        refine sP (.int .u64 ((bt k2x1 : Nat) : Int)) <| sS (.int .u64 ((bt (k2x1 + 1) : Nat) : Int)) (Quiet.pure (exec_int .quo _ _ _ .u64 _ _ _ rfl rfl rfl (int_quo _ _ _ _ _ (by decide) (by rw [← bt_next]; have := bt_le k2x1; rw [show ((bt k2x1 : Nat) : Int).tdiv 2 = ((bt k2x1 / 2 : Nat) : Int) from rfl]; exact wrap_u64 (by omega) (by omega))))) <| sP (.int .u64 ((bt (k2x1 + 1) : Nat) : Int)) ?_
        refine Sy.nil ?_
        exact Sy.againK [true, true, true, true, true] (M := [(g2, 52, (pcs 0 0 false)), (g3, 89, (fcs m)), (g4, 89, (fcs u.val)), (g5, 89, (fcs v.val)), (g6, 127, (tcs j6.x.val j6.y.val j6.z.val))]) (by omega) (all_cons kR (all_cons kR (all_cons kR (all_cons kR (all_cons kR (all_cons kR (all_cons kR all_nil))))))) kR (bcons rfl (bcons rfl (bcons rfl (bcons rfl (bcons (beq (by rw [hj6, hj5, ← bitJ_yes fb8]; rfl)) rfl)))))
  · have lb1 : k2x0 < 64 := of_decide_eq_true hb1.symm
    refine sT ?_
    refine Sy.skip ?_
    refine Sy.then_ ?_
    refine Sy.seq ?_
    refine Sy.block ?_
    refine sC ?_
    refine sS (tv ((bitJ m u v (0 + k2x0)).x.val) ((bitJ m u v (0 + k2x0)).y.val) ((bitJ m u v (0 + k2x0)).z.val)) (qL 4 g6 0 12 127 127 (tcs ((bitJ m u v (0 + k2x0)).x.val) ((bitJ m u v (0 + k2x0)).y.val) ((bitJ m u v (0 + k2x0)).z.val)) rfl Tryz.underlying127) ?_
    obtain ⟨j7, hj7⟩ : ∃ z : J, z = dblR (bitJ m u v (0 + k2x0)) := ⟨_, rfl⟩
    refine sS (tv j7.x.val j7.y.val j7.z.val) (qF 91 #[tv ((bitJ m u v (0 + k2x0)).x.val) ((bitJ m u v (0 + k2x0)).y.val) ((bitJ m u v (0 + k2x0)).z.val)] (fun w => by rw [hj7]; exact twiceR_c w (bitJ m u v (0 + k2x0)))) <| sW 4 g6 127 (tcs ((bitJ m u v (0 + k2x0)).x.val) ((bitJ m u v (0 + k2x0)).y.val) ((bitJ m u v (0 + k2x0)).z.val)) (tcs j7.x.val j7.y.val j7.z.val) (wS 0 127 (tcs j7.x.val j7.y.val j7.z.val) rfl) ?_
    refine sA ?_
    refine sP (.int .i64 3) <| sP (.pointer (some ⟨g3, 3, none⟩)) <| sS (qv (m / 6277101735386680763835789423207666416102355444464034512896 % 18446744073709551616)) (qC 1 g3 3 89 22 (fcs m) rfl Tryz.underlying22) <| sP (.int .u64 ((bt k2x0 : Nat) : Int)) <| sS (.int .u64 (((m / 6277101735386680763835789423207666416102355444464034512896 % 18446744073709551616) &&& bt k2x0 : Nat) : Int)) (Quiet.pure (exec_and _ _ _ _ _ (m / 6277101735386680763835789423207666416102355444464034512896 % 18446744073709551616) (bt k2x0) (Nat.mod_lt _ (by decide)) (bt_le _) rfl rfl rfl)) ?_
    obtain ⟨b9, hb9⟩ : ∃ z : Bool, z = decide ((m / 6277101735386680763835789423207666416102355444464034512896 % 18446744073709551616) &&& bt k2x0 ≠ 0) := ⟨_, rfl⟩
    refine sS (.bool b9) (Quiet.pure (exec_int .neq _ _ _ .u64 _ _ _ rfl rfl rfl (int_neq _ _ _ _ _ (by rw [hb9]; exact decide_eq_decide.2 (by omega))))) ?_
    refine sG ?_
    cases b9
    · have lb9 : ¬ ((m / 6277101735386680763835789423207666416102355444464034512896 % 18446744073709551616) &&& bt k2x0 ≠ 0) := of_decide_eq_false hb9.symm
      have fb9 : ¬ m / 2 ^ (255 - (0 + k2x0)) % 2 = 1 := by
        have q := and_bt (m / 6277101735386680763835789423207666416102355444464034512896 % 18446744073709551616) k2x0 (by omega)
        have q2 := word_bit m 3 k2x0 (by omega)
        rw [show 64 * 3 + (63 - k2x0) = 255 - (0 + k2x0) by omega] at q2
        rw [← q2]
        exact fun t => lb9 (q.2 t)
      refine sU ?_
      refine Sy.skip ?_
      refine Sy.in_ ?_
      refine Sy.then_ ?_
      refine Sy.region ?_
      refine sP (.int .u64 ((bt k2x0 : Nat) : Int)) <| sS (.int .u64 ((bt (k2x0 + 1) : Nat) : Int)) (Quiet.pure (exec_int .quo _ _ _ .u64 _ _ _ rfl rfl rfl (int_quo _ _ _ _ _ (by decide) (by rw [← bt_next]; have := bt_le k2x0; rw [show ((bt k2x0 : Nat) : Int).tdiv 2 = ((bt k2x0 / 2 : Nat) : Int) from rfl]; exact wrap_u64 (by omega) (by omega))))) <| sP (.int .u64 ((bt (k2x0 + 1) : Nat) : Int)) ?_
      refine Sy.nil ?_
      exact Sy.againK [true, true, true, true, true] (M := [(g2, 52, (pcs 0 0 false)), (g3, 89, (fcs m)), (g4, 89, (fcs u.val)), (g5, 89, (fcs v.val)), (g6, 127, (tcs j7.x.val j7.y.val j7.z.val))]) (by omega) (all_cons kR (all_cons kR (all_cons kR (all_cons kR (all_cons kR (all_cons kR (all_cons kR all_nil))))))) kR (bcons rfl (bcons rfl (bcons rfl (bcons rfl (bcons (beq (by rw [hj7, ← bitJ_no fb9]; rfl)) rfl)))))
    · have lb9 : (m / 6277101735386680763835789423207666416102355444464034512896 % 18446744073709551616) &&& bt k2x0 ≠ 0 := of_decide_eq_true hb9.symm
      have fb9 :  m / 2 ^ (255 - (0 + k2x0)) % 2 = 1 := by
        have q := and_bt (m / 6277101735386680763835789423207666416102355444464034512896 % 18446744073709551616) k2x0 (by omega)
        have q2 := word_bit m 3 k2x0 (by omega)
        rw [show 64 * 3 + (63 - k2x0) = 255 - (0 + k2x0) by omega] at q2
        rw [← q2]
        exact q.1 lb9
      refine sT ?_
      refine Sy.region ?_
      refine sS (tv j7.x.val j7.y.val j7.z.val) (qL 4 g6 0 12 127 127 (tcs j7.x.val j7.y.val j7.z.val) rfl Tryz.underlying127) <| sS (fv u.val) (qL 2 g4 0 4 89 89 (fcs u.val) rfl Tryz.underlying89) <| sS (fv v.val) (qL 3 g5 0 4 89 89 (fcs v.val) rfl Tryz.underlying89) ?_
      obtain ⟨j8, hj8⟩ : ∃ z : J, z = plusR j7 u v := ⟨_, rfl⟩
      refine sS (tv j8.x.val j8.y.val j8.z.val) (qF 92 #[tv j7.x.val j7.y.val j7.z.val, fv u.val, fv v.val] (fun w => by rw [hj8]; exact plusR_c w j7 u v)) <| sW 4 g6 127 (tcs j7.x.val j7.y.val j7.z.val) (tcs j8.x.val j8.y.val j8.z.val) (wS 0 127 (tcs j8.x.val j8.y.val j8.z.val) rfl) ?_
      refine Sy.nil ?_
      refine Sy.in_ ?_
      refine Sy.then_ ?_
      refine Sy.region ?_
      refine sP (.int .u64 ((bt k2x0 : Nat) : Int)) <| sS (.int .u64 ((bt (k2x0 + 1) : Nat) : Int)) (Quiet.pure (exec_int .quo _ _ _ .u64 _ _ _ rfl rfl rfl (int_quo _ _ _ _ _ (by decide) (by rw [← bt_next]; have := bt_le k2x0; rw [show ((bt k2x0 : Nat) : Int).tdiv 2 = ((bt k2x0 / 2 : Nat) : Int) from rfl]; exact wrap_u64 (by omega) (by omega))))) <| sP (.int .u64 ((bt (k2x0 + 1) : Nat) : Int)) ?_
      refine Sy.nil ?_
      exact Sy.againK [true, true, true, true, true] (M := [(g2, 52, (pcs 0 0 false)), (g3, 89, (fcs m)), (g4, 89, (fcs u.val)), (g5, 89, (fcs v.val)), (g6, 127, (tcs j8.x.val j8.y.val j8.z.val))]) (by omega) (all_cons kR (all_cons kR (all_cons kR (all_cons kR (all_cons kR (all_cons kR (all_cons kR all_nil))))))) kR (bcons rfl (bcons rfl (bcons rfl (bcons rfl (bcons (beq (by rw [hj8, hj7, ← bitJ_yes fb9]; rfl)) rfl)))))
theorem mulRe_any (w : World) (k x y : Nat) (i : Bool) (hk : k < K4) (hx : x < K4) (hy : y < K4) : Calls Tryz.prog 42 #[fv k, pv x y i] w (Gets w (ptv (Ec.nm finv (k % Sc.pM) (dec x y i)))) := by
  have o1 := dec_on x y i
  rcases h : dec x y i with _ | ⟨u, v⟩
  · rw [Ec.nm_none]
    exact mulRe_none w k x y i hk hx hy h
  · rw [h] at o1
    exact mulRe_some w k x y i hk hx hy u v h o1
end Go.Proofs.YtbofhoonlmikcaaGreatDoor.Cu

end
section
namespace Go.Proofs.YtbofhoonlmikcaaGreatDoor.Cu
open Go.RowKit Go.Proofs.YtbofhoonlmikcaaGreatDoor Go.Proofs.YtbofhoonlmikcaaGreatDoor.Sy
set_option maxRecDepth 100000

structure Pr where
  x : Nat
  y : Nat
  i : Bool
def Pr.cells (t : Pr) : List Value := fws t.x ++ (fws t.y ++ [Value.bool t.i])
def Pr.ok (t : Pr) : Prop := t.x < K4 ∧ t.y < K4
def Pr.pt (t : Pr) : Pt := dec t.x t.y t.i
def Pr.v (t : Pr) : Value := pv t.x t.y t.i
theorem Pr.on (t : Pr) : Ec.On t.pt := dec_on t.x t.y t.i
def vaE (T : Nat → Pr) {N : Nat} (x : Fin N) : Array Value := #[(T x.val).v]
def sumP (T : Nat → Pr) (l : List Nat) : Pt := Ec.sumL finv (fun j => (T j).pt) l
theorem sumP_on (T : Nat → Pr) (l : List Nat) : Ec.On (sumP T l) := Ec.On.sumL fld _ fun x _ => (T x).on
theorem sumP_snoc (T : Nat → Pr) (l : List Nat) (c : Nat) : sumP T (l ++ [c]) = Ec.add finv (sumP T l) (T c).pt := sumL_snoc _ _ _
theorem add_pts (w : World) {S : Pt} (hS : Ec.On S) (t : Pr) (ht : t.ok) {R : Pt} (hR : R = Ec.add finv S t.pt) : Calls Tryz.prog 125 #[pv (pX S) (pY S) (pI S), pv t.x t.y t.i] w (Gets w (pv (pX R) (pY R) (pI R))) := by
  have h := add_any w (pX S) (pY S) (pI S) t.x t.y t.i (pX_lt S) (pY_lt S) ht.1 ht.2
  rw [dec_parts hS] at h
  rw [hR, ← ptv_parts (Ec.add finv S t.pt)]
  exact h
theorem rangeB {w w' : World} {g o n₀ : Nat} {vs : List Value} (h : w.rangeAt g o vs) (hb : Below n₀ w w') (hg : g < n₀) : w'.rangeAt g o vs := fun j v hj => (Below.cell (p := ⟨g, o + j, none⟩) hb hg).trans (h j v hj)
set_option maxHeartbeats 400000 in
theorem values1_in (n l Bs n₀ b off m cap : Nat) (T : Nat → Pr) (hc : m ≤ 4611686018427387904) (hb : b < n₀) (J Jx : List (Fin m) → World → Prop) (W : World) (hnW : n₀ ≤ W.heap.size) (hT : ∀ j, j < m → W.rangeAt b (off + j * 9) (T j).cells) (hJ : AbidesFrom W.heap.size J) (hJx : AbidesFrom W.heap.size Jx)
    (hY : ∀ pre x W1, J pre W1 → pre.length < m → YieldAt Fence.wide (n - 1) Tryz.prog l (vaE T x) W1 fun e W' => (e = .returned (.bool true) ∧ J (pre ++ [x]) W' ∧ KpL n₀ [] W1 W') ∨ (e = .returned (.bool false) ∧ Jx (pre ++ [x]) W'))
    (hS : Blk W Bs 71 #[.slice (some ⟨b, off, none⟩) m cap]) (h0 : J [] W) :
    CallsIn Fence.wide n Tryz.prog 126 #[.func (.yield l) #[] #[], .pointer (some ⟨Bs, 0, none⟩)] W fun e W' => (∃ v, e = .returned v) ∧ ((∃ ys : List (Fin m), ys.map (·.1) = List.range m ∧ J ys W') ∨ (∃ pre : List (Fin m), (∃ k, k ≤ m ∧ pre.map (·.1) = List.range k) ∧ Jx pre W')) := by
  refine Sy.enterP (args := [.func (.yield l) #[] #[], .pointer (some ⟨Bs, 0, none⟩)]) Tryz.func126 rfl kL ?_
  refine sC ?_
  refine sS (.slice (some ⟨b, off, none⟩) m cap) (Quiet.thereOne Bs 0 71 _ _ rfl kR hS.lt _ (hS.cell 0) Tryz.underlying71 rfl) <| sP (.int .i64 ((m : Nat) : Int)) <| sP (.int .i64 0) ?_
  refine sG ?_
  refine Sy.block ?_
  refine Sy.loopP m (fun k1 => [(0, .func (.yield l) #[] #[]), (5, .slice (some ⟨b, off, none⟩) m cap), (6, .int .i64 ((m : Nat) : Int)), (7, .int .i64 ((k1 : Nat) : Int))]) (fun k1 w => ∃ pre : List (Fin m), pre.map (·.1) = List.range k1 ∧ J pre w ∧ Below n₀ W w) (all_cons kR (all_cons kR (all_cons kR (all_cons kR all_nil)))) (fun w hg => ⟨[], rfl, abides_gr hJ h0 hg, Below.mono hg hnW⟩) (fun k1 wr hk1 hz => ?_)
  obtain ⟨pre, hpre, hj, hbw⟩ := hz
  have hlen : pre.length = k1 := by have := congrArg List.length hpre; rwa [List.length_map, List.length_range] at this
  refine sC ?_
  obtain ⟨b1, hb1⟩ : ∃ z : Bool, z = decide (k1 < m) := ⟨_, rfl⟩
  refine sS (.bool b1) (Quiet.pure (exec_int .lss _ _ _ .i64 _ _ _ rfl rfl rfl (int_lss _ _ _ _ _ (by rw [hb1]; exact decide_eq_decide.2 (by omega))))) ?_
  refine sG ?_
  refine Sy.seq ?_
  cases b1
  · have lb1 : ¬ (k1 < m) := of_decide_eq_false hb1.symm
    refine sU ?_
    refine Sy.exit ?_
    refine Sy.then_exit ?_
    refine Sy.then_exit ?_
    obtain rfl : m = k1 := by omega
    refine Sy.in_exit ?_
    exact Sy.retP rfl (fun v w3 hg => ⟨⟨_, rfl⟩, .inl ⟨pre, hpre, abides_gr hJ hj hg⟩⟩) (.inr rfl)
  · have lb1 : k1 < m := of_decide_eq_true hb1.symm
    refine sT ?_
    refine Sy.skip ?_
    refine Sy.then_ ?_
    refine Sy.seq ?_
    refine Sy.block ?_
    refine sC ?_
    refine sS (.pointer (some ⟨b, off + k1 * 9, none⟩)) (Quiet.pure (exec_at 71 _ _ _ b off m cap k1 9 .i64 rfl rfl rfl Tryz.underlying71 kF (by omega))) <| sS (pv ((T k1).x) ((T k1).y) ((T k1).i)) (Quiet.there b (off + k1 * 9) 9 52 (T k1).cells _ _ rfl kR (Nat.lt_of_lt_of_le hb (Nat.le_trans hnW hbw.size)) (rangeB (hT k1 (by omega)) hbw hb) Tryz.underlying52 rfl kR rfl _ kR) ?_
    refine sM 52 (pcs 0 0 false) (fun g0 => ?_)
    refine sW 0 g0 52 (pcs 0 0 false) (pcs ((T k1).x) ((T k1).y) ((T k1).i)) (wS 0 52 (pcs ((T k1).x) ((T k1).y) ((T k1).i)) rfl) ?_
    refine sG ?_
    refine Sy.seq ?_
    have hx : k1 < m := by omega
    refine Sy.regionY 2 (by rintro ⟨_, _, ⟨_, hv⟩, _⟩; cases hv) kR ?_
    refine sP (.func (.yield l) #[] #[]) <| sS (pv ((T k1).x) ((T k1).y) ((T k1).i)) (qL 0 g0 0 9 52 52 (pcs ((T k1).x) ((T k1).y) ((T k1).i)) rfl Tryz.underlying52) ?_
    refine Sy.nil ?_
    refine Sy.yieldX (ro := none) rfl (by rintro ⟨_, _, ⟨_, hv⟩, _⟩; cases hv) kR kR l #[pv ((T k1).x) ((T k1).y) ((T k1).i)] kF (fun e W' => (e = .returned (.bool true) ∧ J (pre ++ [⟨k1, hx⟩]) W' ∧ Below n₀ W W') ∨ (e = .returned (.bool false) ∧ Jx (pre ++ [⟨k1, hx⟩]) W')) (fun w hg => yield_mono (hY pre ⟨k1, hx⟩ w (abides_gr hJ hj hg) (by omega)) (fun e w' q => q.imp (fun q => ⟨q.1, q.2.1, (hbw.trans (Below.mono hg (Nat.le_trans hnW hbw.size))).trans q.2.2.1⟩) id)) (fun e w' q => q.elim (fun q => ⟨_, q.1⟩) (fun q => ⟨_, q.1⟩)) rfl (fun w2 b hr => ?_)
    cases b
    · have hx2 := hr.elim (fun q => by cases q.1) (fun q => q.2)
      refine sP (.bool true) ?_
      refine sG ?_
      refine sT ?_
      refine Sy.ret ?_
      refine Sy.in_ret ?_
      refine Sy.then_ret ?_
      refine Sy.then_ret ?_
      refine Sy.in_ret ?_
      exact Sy.retP rfl (fun v w3 hg => ⟨⟨_, rfl⟩, .inr ⟨pre ++ [⟨k1, hx⟩], ⟨k1 + 1, by omega, by rw [List.map_append, hpre, List.range_succ]; rfl⟩, abides_gr hJx hx2 hg⟩⟩) (.inl rfl)
    · clear hbw hj
      obtain ⟨hj, hbw⟩ := hr.elim (fun q => q.2) (fun q => by cases q.1)
      refine sP (.bool false) ?_
      refine sG ?_
      refine sU ?_
      refine Sy.skip ?_
      refine Sy.in_ ?_
      refine Sy.then_ ?_
      refine Sy.region ?_
      refine sS (.int .i64 ((k1 + 1 : Nat) : Int)) (Quiet.pure (exec_int .add _ _ _ .i64 _ _ _ rfl rfl rfl (int_add _ _ _ _ _ ((wrap_i64 (by omega) (by omega)).trans (by omega))))) <| sP (.int .i64 ((k1 + 1 : Nat) : Int)) ?_
      refine Sy.nil ?_
      exact Sy.againP (by omega) (all_cons kR (all_cons kR (all_cons kR (all_cons kR all_nil)))) (fun w3 hg => ⟨pre ++ [⟨k1, hx⟩], by rw [List.map_append, hpre, List.range_succ]; rfl, abides_gr hJ hj hg, hbw.trans (Below.mono hg (Nat.le_trans hnW hbw.size))⟩)
set_option maxHeartbeats 400000 in
theorem values0_in (n l Bs cap : Nat) (A : Option Addr) (J Jx : List (Fin 0) → World → Prop) (W : World) (hJ : AbidesFrom W.heap.size J)
    (hS : Blk W Bs 71 #[.slice A 0 cap]) (h0 : J [] W) :
    CallsIn Fence.wide n Tryz.prog 126 #[.func (.yield l) #[] #[], .pointer (some ⟨Bs, 0, none⟩)] W fun e W' => (∃ v, e = .returned v) ∧ ((∃ ys : List (Fin 0), ys.map (·.1) = List.range 0 ∧ J ys W') ∨ (∃ pre : List (Fin 0), (∃ k, k ≤ 0 ∧ pre.map (·.1) = List.range k) ∧ Jx pre W')) := by
  refine Sy.enterP (args := [.func (.yield l) #[] #[], .pointer (some ⟨Bs, 0, none⟩)]) Tryz.func126 rfl kL ?_
  refine sC ?_
  refine sS (.slice A 0 cap) (Quiet.thereOne Bs 0 71 _ _ rfl kR hS.lt _ (hS.cell 0) Tryz.underlying71 rfl) <| sP (.int .i64 ((0 : Nat) : Int)) <| sP (.int .i64 0) ?_
  refine sG ?_
  refine Sy.block ?_
  refine Sy.loopP 0 (fun k1 => [(0, .func (.yield l) #[] #[]), (5, .slice A 0 cap), (6, .int .i64 ((0 : Nat) : Int)), (7, .int .i64 ((0 : Nat) : Int))]) (fun k1 w => J [] w) (all_cons kR (all_cons kR (all_cons kR (all_cons kR all_nil)))) (fun w hg => abides_gr hJ h0 hg) (fun k1 wr hk1 hz => ?_)
  have hj := hz
  refine sC ?_
  obtain ⟨b1, hb1⟩ : ∃ z : Bool, z = decide (0 < 0) := ⟨_, rfl⟩
  refine sS (.bool b1) (Quiet.pure (exec_int .lss _ _ _ .i64 _ _ _ rfl rfl rfl (int_lss _ _ _ _ _ (by rw [hb1]; exact decide_eq_decide.2 (by omega))))) ?_
  refine sG ?_
  refine Sy.seq ?_
  cases b1
  · have lb1 : ¬ (0 < 0) := of_decide_eq_false hb1.symm
    refine sU ?_
    refine Sy.exit ?_
    refine Sy.then_exit ?_
    refine Sy.then_exit ?_
    obtain rfl : k1 = 0 := by omega
    refine Sy.in_exit ?_
    exact Sy.retP rfl (fun v w3 hg => ⟨⟨_, rfl⟩, .inl ⟨[], rfl, abides_gr hJ hj hg⟩⟩) (.inr rfl)
  · have lb1 : 0 < 0 := of_decide_eq_true hb1.symm
    refine sT ?_
    refine Sy.skip ?_
    refine Sy.then_ ?_
    refine Sy.seq ?_
    exact absurd lb1 (by omega)
def PSrc (w : World) (A : Option Addr) (m : Nat) (T : Nat → Pr) : Prop := 0 < m → ∃ b off, A = some ⟨b, off, none⟩ ∧ b < w.heap.size ∧ ∀ j, j < m → w.rangeAt b (off + j * 9) (T j).cells
theorem values_stops (n Bs m cap : Nat) (A : Option Addr) (T : Nat → Pr) (hc : m ≤ 4611686018427387904) (w0 w : World) (hb : Below w0.heap.size w0 w) (hsrc : PSrc w0 A m T) (hS : Blk w Bs 71 #[.slice A m cap]) :
    SeqStopsK Fence.wide n Tryz.prog 126 #[.pointer (some ⟨Bs, 0, none⟩)] (vaE T (N := m)) (KpL w0.heap.size []) (fun ys => ys.map (·.1) = List.range m) (fun pre => ∃ k, k ≤ m ∧ pre.map (·.1) = List.range k) m w := fun l J Jx W hW hJ hJx hY h0 => by
  have hS' := hS.below hW hS.lt
  rcases Nat.eq_zero_or_pos m with h | h
  · subst h
    exact values0_in n l Bs cap A J Jx W hJ hS' h0
  · obtain ⟨b, off, rfl, hbl, hT⟩ := hsrc h
    exact values1_in n l Bs w0.heap.size b off m cap T hc hbl J Jx W (Nat.le_trans hb.size hW.size) (fun j hj => rangeB (rangeB (hT j hj) hb hbl) hW (Nat.lt_of_lt_of_le hbl hb.size)) hJ hJx hY hS' h0
set_option maxHeartbeats 400000 in
theorem sum_any (w : World) (Bs m cap : Nat) (A : Option Addr) (T : Nat → Pr) (hc : m ≤ 4611686018427387904) (hok : ∀ j, (T j).ok) (hsrc : PSrc w A m T) (hS : Blk w Bs 71 #[.slice A m cap]) : Calls Tryz.prog 78 #[.func (.func 126) #[] #[.pointer (some ⟨Bs, 0, none⟩)]] w (Gets w (ptv (sumP T (List.range m)))) := by
  refine Sy.enterM (args := [.func (.func 126) #[] #[.pointer (some ⟨Bs, 0, none⟩)]]) Tryz.func78 rfl kL ?_
  refine sC ?_
  refine sM 52 (pcs 0 0 false) (fun g0 => ?_)
  refine sA ?_
  refine sS (pv (pX (sumP T [])) (pY (sumP T [])) (pI (sumP T []))) (qF 105 #[] (zero_c)) ?_
  refine sM 52 (pcs 0 0 false) (fun g1 => ?_)
  refine sW 1 g1 52 (pcs 0 0 false) (pcs (pX (sumP T [])) (pY (sumP T [])) (pI (sumP T []))) (wS 0 52 (pcs (pX (sumP T [])) (pY (sumP T [])) (pI (sumP T []))) rfl) ?_
  refine sG ?_
  refine Sy.seq ?_
  refine sC ?_
  refine sP (.func (.func 126) #[] #[.pointer (some ⟨Bs, 0, none⟩)]) ?_
  refine sG ?_
  refine Sy.block ?_
  refine Sy.rangeF (α := Fin m) 126 #[.pointer (some ⟨Bs, 0, none⟩)] kR kR (enters_of Tryz.func126 kR rfl) (vaE T) [] (fun ys => ys.map (·.1) = List.range m) (fun pre => ∃ k, k ≤ m ∧ pre.map (·.1) = List.range k) m (fun _ => rfl) (by decide) [g0, g1] (fun _ => True) (trivial) (fun pre => [(g0, 52, (pcs 0 0 false)), (g1, 52, (pcs (pX (sumP T (pre.map (·.1)))) (pY (sumP T (pre.map (·.1)))) (pI (sumP T (pre.map (·.1))))))]) (fun pre => [(g0, 52, (pcs 0 0 false)), (g1, 52, (pcs (pX (sumP T (pre.map (·.1)))) (pY (sumP T (pre.map (·.1)))) (pI (sumP T (pre.map (·.1))))))]) (fun _ => False) [true, true] kR (fun _ => rfl) ?_ ?_ 1 (fun x gs => [(3, .pointer (some ⟨g1, 0, none⟩)), (4, .pointer (some ⟨(gs.getD 0 0), 0, none⟩))]) (fun x gs => [(gs.getD 0 0, 52, (pcs ((T x.val).x) ((T x.val).y) ((T x.val).i)))]) (fun x gs h => by match gs, h with | [_], _ => rfl) ?_ ?_ ?_ ?_
  · intro w hw
    exact ⟨w, Below.refl _ _, values_stops 8 Bs m cap A T hc _ w hw.below hsrc (hS.below hw.below hS.lt)⟩
  · intro p hp pre
    cases hp
  · intro l fz pre x
    refine Sy.regionR (by rintro ⟨_, _, h⟩; exact h) kR ⟨_, rfl⟩ ?_
    refine sM 52 (pcs 0 0 false) (fun g2 => ?_)
    refine sW 2 g2 52 (pcs 0 0 false) (pcs ((T x.val).x) ((T x.val).y) ((T x.val).i)) (wS 0 52 (pcs ((T x.val).x) ((T x.val).y) ((T x.val).i)) rfl) ?_
    refine Sy.nil ?_
    exact Sy.apN [g2] rfl (all_cons kR (all_cons kR all_nil)) [true, true, true] kR
  · intro l fz pre x gs hgs hlen hH
    obtain ⟨y0, rfl⟩ : ∃ y, gs = [y] := by match gs, hgs with | [y], _ => exact ⟨y, rfl⟩
    refine Sy.block ?_
    refine Sy.regionR (by rintro ⟨_, _, h⟩; exact h) kR ⟨_, rfl⟩ ?_
    refine sS (pv (pX (sumP T (pre.map (·.1)))) (pY (sumP T (pre.map (·.1)))) (pI (sumP T (pre.map (·.1))))) (qL 1 g1 0 9 52 52 (pcs (pX (sumP T (pre.map (·.1)))) (pY (sumP T (pre.map (·.1)))) (pI (sumP T (pre.map (·.1))))) rfl Tryz.underlying52) <| sS (pv ((T x.val).x) ((T x.val).y) ((T x.val).i)) (qL 2 y0 0 9 52 52 (pcs ((T x.val).x) ((T x.val).y) ((T x.val).i)) rfl Tryz.underlying52) ?_
    obtain ⟨R1, hR1⟩ : ∃ z : Pt, z = Ec.add finv (sumP T (pre.map (·.1))) (T x.val).pt := ⟨_, rfl⟩
    refine sS (pv (pX R1) (pY R1) (pI R1)) (qF 125 #[pv (pX (sumP T (pre.map (·.1)))) (pY (sumP T (pre.map (·.1)))) (pI (sumP T (pre.map (·.1)))), pv ((T x.val).x) ((T x.val).y) ((T x.val).i)] (fun w => by have q := add_pts w (sumP_on T (pre.map (·.1))) (T x.val) (hok _) hR1; exact q)) <| sW 1 g1 52 (pcs (pX (sumP T (pre.map (·.1)))) (pY (sumP T (pre.map (·.1)))) (pI (sumP T (pre.map (·.1))))) (pcs (pX R1) (pY R1) (pI R1)) (wS 0 52 (pcs (pX R1) (pY R1) (pI R1)) rfl) ?_
    refine Sy.nil ?_
    refine Sy.in_ ?_
    exact Sy.bpN [true, true, false] (M := [(g0, 52, (pcs 0 0 false)), (g1, 52, (pcs (pX R1) (pY R1) (pI R1)))]) kR (bcons rfl (bcons (beq (by rw [List.map_append, List.map_singleton, sumP_snoc, ← hR1])) rfl)) (trivial)
  · intro D fz xs hS hH hD hm
    have hS0 : xs.map (·.1) = List.range m := hS
    rw [hS0]
    refine Sy.in_ ?_
    refine sB ?_
    refine sS (pv (pX (sumP T (List.range m))) (pY (sumP T (List.range m))) (pI (sumP T (List.range m)))) (qL 1 g1 0 9 52 52 (pcs (pX (sumP T (List.range m))) (pY (sumP T (List.range m))) (pI (sumP T (List.range m)))) rfl Tryz.underlying52) <| sW 0 g0 52 (pcs 0 0 false) (pcs (pX (sumP T (List.range m))) (pY (sumP T (List.range m))) (pI (sumP T (List.range m)))) (wS 0 52 (pcs (pX (sumP T (List.range m))) (pY (sumP T (List.range m))) (pI (sumP T (List.range m)))) rfl) ?_
    refine sG ?_
    refine Sy.ret ?_
    rw [show (ptv (sumP T (List.range m)) : Value) = pv (pX (sumP T (List.range m))) (pY (sumP T (List.range m))) (pI (sumP T (List.range m))) from ptv_parts _]
    exact Sy.retM1 (v := pv (pX (sumP T (List.range m))) (pY (sumP T (List.range m))) (pI (sumP T (List.range m)))) rfl (.inl (Res.cell (ty' := 52) g0 0 (pcs (pX (sumP T (List.range m))) (pY (sumP T (List.range m))) (pI (sumP T (List.range m)))) _ kR kR Tryz.underlying52 rfl kR kR)) hD hm
  · intro D fz pre hS hx hD hm
    exact hx.elim
end Go.Proofs.YtbofhoonlmikcaaGreatDoor.Cu

end
section
namespace Go.Proofs.YtbofhoonlmikcaaGreatDoor.Cu
open Go.RowKit Go.Proofs.YtbofhoonlmikcaaGreatDoor Go.Proofs.YtbofhoonlmikcaaGreatDoor.Sy
set_option maxRecDepth 100000

end Go.Proofs.YtbofhoonlmikcaaGreatDoor.Cu

end
section
namespace Go.Proofs.YtbofhoonlmikcaaGreatDoor.Cu
open Go.ChangeShapes Go.WideShapes Go.ChangeAt Go.RowKit Go.Proofs.YtbofhoonlmikcaaGreatDoor Go.Deep

instance : Inhabited Pr := ⟨⟨0, 0, false⟩⟩
instance : Inhabited Trm := ⟨⟨0, 0, 0, false⟩⟩
end Go.Proofs.YtbofhoonlmikcaaGreatDoor.Cu

end
section
namespace Go.Proofs.YtbofhoonlmikcaaGreatDoor.Cu
open Go.ChangeShapes Go.WideShapes Go.ChangeAt Go.RowKit Go.Proofs.YtbofhoonlmikcaaGreatDoor Go.Deep

theorem split2 {α : Type} {cs : List α} {a b : Nat} (h : cs.length = a + b) : cs = (cs.drop 0).take a ++ (cs.drop a).take b := by
  rw [List.drop_zero, List.take_of_length_le (l := cs.drop a) (by rw [List.length_drop]; omega), List.take_append_drop]
theorem split3 {α : Type} {cs : List α} {a b c : Nat} (h : cs.length = a + (b + c)) : cs = (cs.drop 0).take a ++ ((cs.drop a).take b ++ (cs.drop (a + b)).take c) := by
  have h2 := split2 (cs := cs.drop a) (a := b) (b := c) (by rw [List.length_drop]; omega)
  rw [List.drop_zero, List.drop_drop] at h2
  rw [← h2, List.drop_zero, List.take_append_drop]
theorem one_u64 {H : Type} {enc : TypeId × Value → H} {P : Program} {W : World} {fuel : Nat} {t : TypeId} {cs : List Value} {x : DataW H × List MemPlace} (ht : P.underlying t = some (.int .u64)) (hf : DataW.trod enc P W 0 (fun _ => true) true fuel t cs = some x) : ∃ v : Nat, v < 18446744073709551616 ∧ cs = [.int .u64 v] := by
  obtain ⟨z, e, _, w⟩ := DataW.trod_int ht hf
  obtain ⟨m, rfl, hm⟩ := u64_wf w
  exact ⟨m, hm, e⟩
theorem four_words {H : Type} {enc : TypeId × Value → H} {P : Program} {W : World} {fuel : Nat} {t q : TypeId} {cs : List Value} {x : DataW H × List MemPlace} (hl : cs.length = 4) (ht : P.underlying t = some (.array 4 q)) (hq : P.underlying q = some (.int .u64)) (hcq : P.cellsOf q = 1) (hf : DataW.trod enc P W 0 (fun _ => true) true fuel t cs = some x) : ∃ n : Nat, n < K4 ∧ cs = fws n := by
  match cs, hl with
  | [a, b, c, d], _ => exact words_trod ht hq hcq hf
end Go.Proofs.YtbofhoonlmikcaaGreatDoor.Cu

end
section
namespace Go.Proofs.YtbofhoonlmikcaaGreatDoor.Cu
open Go.ChangeShapes Go.WideShapes Go.ChangeAt Go.RowKit Go.Proofs.YtbofhoonlmikcaaGreatDoor Go.Deep

theorem arr_part {H : Type} {enc : TypeId × Value → H} {P : Program} {W : World} {fuel n s : Nat} {t e : TypeId} {cs : List Value} {x : DataW H × List MemPlace} (ht : P.underlying t = some (.array n e)) (hce : P.cellsOf e = s) (hf : DataW.trod enc P W 0 (fun _ => true) true fuel t cs = some x) (j : Nat) (hj : j < n) :
    ∃ m y, DataW.trod enc P W 0 (fun _ => true) true m e ((cs.drop (j * s)).take s) = some y := by
  cases fuel with
  | zero => simp [DataW.trod] at hf
  | succ fuel =>
    simp only [DataW.trod, ht, hce] at hf
    split at hf
    · obtain ⟨xs, hm, _⟩ := Option.map_eq_some_iff.1 hf
      obtain ⟨b, _, hb⟩ := Lib.mapM_at hm j j (by simp [hj])
      exact ⟨fuel, b, hb⟩
    · cases hf
set_option maxRecDepth 100000 in
theorem open_two {H : Type} {enc : TypeId × Value → H} {W : World} {r : Reach} {b0 : Nat} {v : Value} {d : DataW H} {ps : List MemPlace}
    (hval : Value.okWide Tryz.prog W r b0 67 v) (h : DataW.Trod enc Tryz.prog W 0 (fun _ => true) true 67 v d ps) : ∃ a b : Nat, a < 18446744073709551616 ∧ b < 18446744073709551616 ∧ v = .agg #[.int .u64 a, .int .u64 b] := by
  have ht := Tryz.underlying67
  simp only [Value.okWide, ht] at hval
  obtain ⟨⟨cs⟩, rfl, hsz, _⟩ := hval
  rw [show Tryz.prog.cellsOf 67 = 2 by kernel_rfl] at hsz
  obtain ⟨fuel, hf⟩ := h
  match cs, hsz with
  | [c0, c1], _ =>
    have hf' : DataW.trod enc Tryz.prog W 0 (fun _ => true) true fuel 67 [c0, c1] = some (d, ps) := by simpa [Value.cells] using hf
    obtain ⟨_, _, g0⟩ := arr_part ht (s := 1) (by kernel_rfl) hf' 0 (by decide)
    obtain ⟨_, _, g1⟩ := arr_part ht (s := 1) (by kernel_rfl) hf' 1 (by decide)
    obtain ⟨a, ha, e0⟩ := one_u64 Tryz.underlying22 g0
    obtain ⟨b, hb, e1⟩ := one_u64 Tryz.underlying22 g1
    have q0 : [c0] = [.int .u64 (a : Int)] := e0
    have q1 : [c1] = [.int .u64 (b : Int)] := e1
    injection q0 with q0
    injection q1 with q1
    exact ⟨a, b, ha, hb, by rw [q0, q1]⟩
set_option maxRecDepth 100000 in
theorem open_three {H : Type} {enc : TypeId × Value → H} {W : World} {r : Reach} {b0 : Nat} {v : Value} {d : DataW H} {ps : List MemPlace}
    (hval : Value.okWide Tryz.prog W r b0 68 v) (h : DataW.Trod enc Tryz.prog W 0 (fun _ => true) true 68 v d ps) : ∃ a b c : Nat, a < K4 ∧ b < K4 ∧ c < K4 ∧ v = .agg (fws a ++ (fws b ++ (fws c))).toArray := by
  have ht := Tryz.underlying68
  simp only [Value.okWide, ht] at hval
  obtain ⟨⟨cs⟩, rfl, hsz, _⟩ := hval
  rw [show Tryz.prog.cellsOf 68 = 12 by kernel_rfl] at hsz
  have hl : cs.length = 4 + (4 + 4) := by simpa using hsz
  obtain ⟨fuel, hf⟩ := h
  have hf' : DataW.trod enc Tryz.prog W 0 (fun _ => true) true fuel 68 cs = some (d, ps) := by simpa [Value.cells] using hf
  obtain ⟨_, _, g0⟩ := arr_part ht (s := 4) (by kernel_rfl) hf' 0 (by decide)
  obtain ⟨_, _, g1⟩ := arr_part ht (s := 4) (by kernel_rfl) hf' 1 (by decide)
  obtain ⟨_, _, g2⟩ := arr_part ht (s := 4) (by kernel_rfl) hf' 2 (by decide)
  obtain ⟨a, ha, e0⟩ := four_words (by rw [List.length_take, List.length_drop]; omega) Tryz.underlying24 Tryz.underlying22 (by kernel_rfl) g0
  obtain ⟨b, hb, e1⟩ := four_words (by rw [List.length_take, List.length_drop]; omega) Tryz.underlying24 Tryz.underlying22 (by kernel_rfl) g1
  obtain ⟨c, hc, e2⟩ := four_words (by rw [List.length_take, List.length_drop]; omega) Tryz.underlying24 Tryz.underlying22 (by kernel_rfl) g2
  refine ⟨a, b, c, ha, hb, hc, ?_⟩
  have s := split3 hl
  have q0 : (cs.drop 0).take 4 = fws a := e0
  have q1 : (cs.drop 4).take 4 = fws b := e1
  have q2 : (cs.drop (4 + 4)).take 4 = fws c := e2
  rw [q0, q1, q2] at s
  rw [s]
end Go.Proofs.YtbofhoonlmikcaaGreatDoor.Cu

end
section
namespace Go.Proofs.YtbofhoonlmikcaaGreatDoor.Nt

theorem pr_44706919 : Pr 44706919 := small_prime (b := 6687) (by decide) (by decide) (by decide +kernel)
theorem pr_120233 : Pr 120233 := small_prime (b := 347) (by decide) (by decide) (by decide +kernel)
theorem pr_545358713 : Pr 545358713 := small_prime (b := 23354) (by decide) (by decide) (by decide +kernel)
theorem pr_305873 : Pr 305873 := small_prime (b := 554) (by decide) (by decide) (by decide +kernel)
theorem pr_293 : Pr 293 := small_prime (b := 18) (by decide) (by decide) (by decide +kernel)
theorem pr_n1 : Pr 174723607534414371449 := by
  refine pock (F := 44706919 * 120233) (by decide) (fun r hr hrN => ?_) (by decide)
  have h0 := pock_pm 68 2 (by decide) pr_44706919 (by decide) (by decide +kernel) (by decide +kernel) (by decide) r hr hrN
  have h1 := pock_pm 68 2 (by decide) pr_120233 (by decide) (by decide +kernel) (by decide +kernel) (by decide) r hr hrN
  exact Nat.Coprime.mul_dvd_of_dvd_of_dvd (by decide) h0 h1
theorem pr_n3 : Pr 29047611873442575647497758179 := by
  refine pock (F := 545358713 * (305873 * 293)) (by decide) (fun r hr hrN => ?_) (by decide)
  have h0 := pock_pm 95 2 (by decide) pr_545358713 (by decide) (by decide +kernel) (by decide +kernel) (by decide) r hr hrN
  have h1 := pock_pm 95 2 (by decide) pr_305873 (by decide) (by decide +kernel) (by decide +kernel) (by decide) r hr hrN
  have h2 := pock_pm 95 2 (by decide) pr_293 (by decide) (by decide +kernel) (by decide +kernel) (by decide) r hr hrN
  exact Nat.Coprime.mul_dvd_of_dvd_of_dvd (by decide) h0 (Nat.Coprime.mul_dvd_of_dvd_of_dvd (by decide) h1 h2)
theorem pr_n2 : Pr 341948486974166000522343609283189 :=
  pock (F := 29047611873442575647497758179) (by decide) (fun r hr hrN => pock_pm 109 2 (by decide) pr_n3 (by decide) (by decide +kernel) (by decide +kernel) (by decide) r hr hrN) (by decide)
theorem pr_n : Pr 115792089237316195423570985008687907852837564279074904382605163141518161494337 := by
  refine pock (F := 174723607534414371449 * 341948486974166000522343609283189) (by decide) (fun r hr hrN => ?_) (by decide)
  have h0 := pock_pm 256 2 (by decide) pr_n1 (by decide) (by decide +kernel) (by decide +kernel) (by decide) r hr hrN
  have h1 := pock_pm 256 2 (by decide) pr_n2 (by decide) (by decide +kernel) (by decide +kernel) (by decide) r hr hrN
  exact Nat.Coprime.mul_dvd_of_dvd_of_dvd (by decide) h0 h1
end Go.Proofs.YtbofhoonlmikcaaGreatDoor.Nt

end
section
namespace Go.Proofs.YtbofhoonlmikcaaGreatDoor.Cu
open Go.RowKit Go.Proofs.YtbofhoonlmikcaaGreatDoor

def fc {α : Type} (x : Nat) (f : Nat → α) : α := match x with
  | 0 => f 0
  | n + 1 => f (n + 1)
theorem fc_eq {α : Type} (x : Nat) (f : Nat → α) : fc x f = f x := by cases x <;> rfl
def ml (a b : Nat) : Nat := a * b % pM
def sb (a b : Nat) : Nat := (pM - b + a) % pM
def ad (a b : Nat) : Nat := (a + b) % pM
def dbK {α : Type} (x y z : Nat) (k : Nat → Nat → Nat → α) : α :=
  fc (ml (ml x x) 3) fun u => fc (ml (ml x (ml y y)) 4) fun q => fc (sb (ml u u) (ad q q)) fun X => fc (sb (ml u (sb q X)) (ml (ml (ml y y) (ml y y)) 8)) fun Y => fc (ml (ml y z) 2) fun Z => k X Y Z
theorem dbK_eq {α : Type} (a : J) (k : Nat → Nat → Nat → α) : dbK a.x.val a.y.val a.z.val k = k (dblJ a).x.val (dblJ a).y.val (dblJ a).z.val := by
  unfold dbK
  simp only [fc_eq]
  rfl
def bJ : J := ⟨gx, gy, 1⟩
def adK {α : Type} (x y z : Nat) (k : Nat → Nat → Nat → α) : α :=
  cond (Nat.beq z 0) (k gx.val gy.val 1) <| fc (sb (ml gx.val (ml z z)) x) fun c => fc (sb (ml gy.val (ml (ml z z) z)) y) fun r =>
  cond (Nat.beq c 0 && Nat.beq r 0) (dbK x y z k) <| fc (ml (ml c c) c) fun d => fc (ml x (ml c c)) fun e =>
  fc (sb (sb (ml r r) d) (ad e e)) fun X => fc (sb (ml r (sb e X)) (ml y d)) fun Y => fc (ml z c) fun Z => k X Y Z
theorem one_ne : (1 : Fp) ≠ 0 := by decide +kernel
theorem uJ_b (a : J) : uJ a bJ = a.x := by
  show a.x * (1 * 1) = a.x
  grobner
theorem vJ_b (a : J) : vJ a bJ = a.y := by
  show a.y * (1 * 1 * 1) = a.y
  grobner
theorem zero_val (a : Fp) : Nat.beq a.val 0 = true ↔ a = 0 := by
  rw [Nat.beq_eq]
  exact ⟨fun h => Fin.ext h, fun h => by rw [h]; rfl⟩
theorem adK_eq {α : Type} (a : J) (k : Nat → Nat → Nat → α) : adK a.x.val a.y.val a.z.val k = k (addJ a bJ).x.val (addJ a bJ).y.val (addJ a bJ).z.val := by
  unfold adK
  by_cases h : a.z = 0
  · rw [(zero_val _).2 h, addJ_1 h]
    rfl
  · rw [show Nat.beq a.z.val 0 = false from by cases e : Nat.beq a.z.val 0 with | false => rfl | true => exact absurd ((zero_val _).1 e) h]
    simp only [cond_false, fc_eq]
    have hc : cJ a bJ = gx * (a.z * a.z) - a.x := by unfold cJ; rw [uJ_b]; rfl
    have hr : rJ a bJ = gy * (a.z * a.z * a.z) - a.y := by unfold rJ; rw [vJ_b]; rfl
    have ec : sb (ml gx.val (ml a.z.val a.z.val)) a.x.val = (cJ a bJ).val := by rw [hc]; rfl
    have er : sb (ml gy.val (ml (ml a.z.val a.z.val) a.z.val)) a.y.val = (rJ a bJ).val := by rw [hr]; rfl
    rw [ec, er]
    by_cases hz : cJ a bJ = 0 ∧ rJ a bJ = 0
    · rw [(zero_val _).2 hz.1, (zero_val _).2 hz.2, addJ_3 h one_ne hz.1 hz.2]
      exact dbK_eq a k
    · have e : (Nat.beq (cJ a bJ).val 0 && Nat.beq (rJ a bJ).val 0) = false := by
        cases q : (Nat.beq (cJ a bJ).val 0 && Nat.beq (rJ a bJ).val 0) with
        | false => rfl
        | true =>
          rw [Bool.and_eq_true] at q
          exact absurd ⟨(zero_val _).1 q.1, (zero_val _).1 q.2⟩ hz
      rw [e, addJ_4 h one_ne hz]
      simp only [cond_false]
      have s1 : szJ a bJ = a.z * cJ a bJ := by
        show a.z * 1 * cJ a bJ = _
        grobner
      unfold sxJ syJ sxJ
      rw [s1, uJ_b, vJ_b]
      rfl
def gK {α : Type} (m : Nat) : Nat → Nat → Nat → Nat → (Nat → Nat → Nat → α) → α
  | 0, x, y, z, k => k x y z
  | i + 1, x, y, z, k => dbK x y z fun x y z => cond (Nat.beq (m / 2 ^ i % 2) 1) (adK x y z fun x y z => gK m i x y z k) (gK m i x y z k)
theorem bJ_rep : Ec.Rep bJ bP := by
  show (1 : Fp) ≠ 0 ∧ gx = gx * (1 * 1) ∧ gy = gy * (1 * 1 * 1)
  exact ⟨one_ne, by grobner, by grobner⟩
theorem gK_rep {α : Type} (m : Nat) (k : Nat → Nat → Nat → α) : ∀ (i : Nat) (a : J) (t : Nat), Ec.Rep a (Ec.nm finv t bP) → ∃ a' : J, gK m i a.x.val a.y.val a.z.val k = k a'.x.val a'.y.val a'.z.val ∧ Ec.Rep a' (Ec.nm finv (t * 2 ^ i + m % 2 ^ i) bP)
  | 0, a, t, h => ⟨a, rfl, by rw [Nat.pow_zero, Nat.mul_one, Nat.mod_one, Nat.add_zero]; exact h⟩
  | i + 1, a, t, h => by
    have o := bP_on.nm fld t
    have h2 : Ec.Rep (dblJ a) (Ec.nm finv (t + t) bP) := by
      rw [Ec.nm_add fld bP_on]
      exact dblJ_rep o h
    show ∃ a', dbK _ _ _ _ = _ ∧ _
    rw [dbK_eq, Nat.mod_pow_succ, Nat.pow_succ]
    by_cases hb : m / 2 ^ i % 2 = 1
    · rw [show Nat.beq (m / 2 ^ i % 2) 1 = true from by rw [hb]; rfl, cond_true, adK_eq]
      have h3 : Ec.Rep (addJ (dblJ a) bJ) (Ec.nm finv (t + t + 1) bP) := by
        rw [Ec.nm_add fld bP_on, Ec.nm_one]
        exact addJ_rep (bP_on.nm fld _) bP_on h2 bJ_rep
      obtain ⟨a', e, r⟩ := gK_rep m k i _ _ h3
      refine ⟨a', e, ?_⟩
      rw [show (t + t + 1) * 2 ^ i + m % 2 ^ i = t * (2 ^ i * 2) + (m % 2 ^ i + 2 ^ i * (m / 2 ^ i % 2)) from by rw [hb, Nat.mul_one, Nat.add_mul, Nat.one_mul, Nat.add_mul, ← Nat.mul_assoc, Nat.mul_two]; omega] at r
      exact r
    · have h0 : m / 2 ^ i % 2 = 0 := by omega
      rw [h0]
      show ∃ a', gK m i _ _ _ k = _ ∧ _
      obtain ⟨a', e, r⟩ := gK_rep m k i _ _ h2
      refine ⟨a', e, ?_⟩
      rw [show (t + t) * 2 ^ i + m % 2 ^ i = t * (2 ^ i * 2) + (m % 2 ^ i + 2 ^ i * 0) from by rw [Nat.mul_zero, Nat.add_mul, ← Nat.mul_assoc, Nat.mul_two]; omega] at r
      exact r
def oJ : J := ⟨0, 0, 0⟩
theorem oJ_rep : Ec.Rep oJ (Ec.nm finv 0 bP) := rfl
def nN : Nat := 115792089237316195423570985008687907852837564279074904382605163141518161494337
set_option maxRecDepth 100000 in
theorem nN_big : nN % 2 ^ 256 = nN := by decide +kernel
set_option maxRecDepth 100000 in
theorem chain : gK nN 256 0 0 0 (fun _ _ z => z) = 0 := by decide +kernel
theorem gK_none {m : Nat} (hm : m % 2 ^ 256 = m) (h : gK m 256 0 0 0 (fun _ _ z => z) = 0) : Ec.nm finv m bP = none := by
  obtain ⟨a, e, r⟩ := gK_rep m (fun _ _ z => z) 256 oJ 0 oJ_rep
  rw [Nat.zero_mul, Nat.zero_add, hm] at r
  have e' : gK m 256 0 0 0 (fun _ _ z => z) = a.z.val := e
  rw [h] at e'
  have hz : a.z = 0 := Fin.ext e'.symm
  revert r
  cases Ec.nm finv m bP with
  | none => exact fun _ => rfl
  | some P =>
    obtain ⟨X, Y⟩ := P
    exact fun r => absurd hz r.1
theorem n_base : Ec.nm finv nN bP = none := gK_none nN_big chain
theorem prime_div (q : Nat) (hp : Nt.Pr q) (h1 : ¬ q = 0) (d : Nat) (h : d ∣ q) : d = 1 ∨ d = q := by
  rcases Nat.lt_or_ge d q with hlt | hge
  · left
    have h0 : 0 < d := by
      rcases Nat.eq_zero_or_pos d with rfl | h0
      · exact absurd (Nat.eq_zero_of_zero_dvd h) h1
      · exact h0
    have := hp.2 d h0 hlt
    rwa [Nat.gcd_eq_left h] at this
  · right
    exact Nat.le_antisymm (Nat.le_of_dvd (by omega) h) hge
set_option maxRecDepth 100000 in
theorem prime_nN : Nt.Pr nN := Nt.pr_n
theorem n_prime : ∀ d, d ∣ nN → d = 1 ∨ d = nN := prime_div nN prime_nN (by decide +kernel)
theorem n_any {P : Pt} (hP : Ec.On P) : Ec.nm finv nN P = none :=
  Ec.all_order fld (by decide +kernel) bP_on (by unfold bP; exact fun h => by cases h) n_base n_prime (by decide +kernel) hP
theorem nm_modN {P : Pt} (hP : Ec.On P) (k : Nat) : Ec.nm finv (k % nN) P = Ec.nm finv k P := Ec.nm_mod fld hP (n_any hP) k
end Go.Proofs.YtbofhoonlmikcaaGreatDoor.Cu

end
section
namespace Go.Proofs.YtbofhoonlmikcaaGreatDoor.Cu
open Go.RowKit Go.Proofs.YtbofhoonlmikcaaGreatDoor Go.Proofs.YtbofhoonlmikcaaGreatDoor.Sy

def valP (v : Nat) (P : Pt) (b : Nat) : Pt := Ec.add finv (Ec.nm finv (v % Sc.pM) P) (Ec.nm finv (b % Sc.pM) bP)
theorem valP_on {P : Pt} (h : Ec.On P) (v b : Nat) : Ec.On (valP v P b) := Ec.On.add fld (h.nm fld _) (bP_on.nm fld _)
theorem nm_sc (k : Nat) {P : Pt} (hP : Ec.On P) : Ec.nm finv (k % Sc.pM) P = Ec.nm finv k P := nm_modN hP k
theorem pM_big : 18446744073709551616 < Sc.pM := by decide
theorem one_pM : 1 % Sc.pM = 1 := Nat.mod_eq_of_lt (Nat.lt_trans (by decide) pM_big)
theorem zero_pM : 0 % Sc.pM = 0 := Nat.zero_mod _
theorem valP_one (P : Pt) (b : Nat) : valP 1 P b = Ec.add finv P (Ec.nm finv (b % Sc.pM) bP) := by
  unfold valP
  rw [one_pM, Ec.nm_one]
theorem valP_base1 : valP 1 bP 0 = bP := by
  rw [valP_one, zero_pM]
  exact Ec.add_zero _
theorem valP_base0 : valP 0 bP 0 = none := by
  unfold valP
  rw [zero_pM]
  rfl
theorem valP_base2 : valP 2 bP 1 = Ec.nm finv (3 % Sc.pM) bP := by
  unfold valP
  rw [nm_sc 2 bP_on, nm_sc 1 bP_on, nm_sc 3 bP_on, ← Ec.nm_add fld bP_on]
theorem valP_sum {P : Pt} (hP : Ec.On P) (v u b c : Nat) : Ec.add finv (valP v P b) (valP u P c) = valP (v + u) P ((b + c) % Sc.pM) := by
  have o1 := hP.nm fld v
  have o2 := hP.nm fld u
  have o3 := bP_on.nm fld b
  have o4 := bP_on.nm fld c
  unfold valP
  rw [nm_sc ((b + c) % Sc.pM) bP_on, nm_sc (b + c) bP_on, nm_sc (v + u) hP, nm_sc v hP, nm_sc u hP, nm_sc b bP_on, nm_sc c bP_on, Ec.nm_add fld hP, Ec.nm_add fld bP_on]
  rw [Ec.assoc fld o1 o3 (Ec.On.add fld o2 o4), ← Ec.assoc fld o3 o2 o4, Ec.comm fld o3 o2, Ec.assoc fld o2 o3 o4, ← Ec.assoc fld o1 o2 (Ec.On.add fld o3 o4)]
end Go.Proofs.YtbofhoonlmikcaaGreatDoor.Cu

end
section
namespace Go.Proofs.YtbofhoonlmikcaaGreatDoor.Sc
open Go.RowKit Go.Lib

end Go.Proofs.YtbofhoonlmikcaaGreatDoor.Sc

end
section
namespace Go.Proofs.YtbofhoonlmikcaaGreatDoor.Sc
open Go.RowKit Go.Lib
set_option maxRecDepth 100000

theorem of_any (w : World) (n : Nat) (hn : n < 18446744073709551616) : Calls Tryz.prog 66 #[.int .u64 (n : Int)] w fun e w' => e = .returned (fv n) ∧ Below w.heap.size w w' := by
  rw [fv_small n hn]
  go_enter Tryz.func66, Tryz.ntmps66
  go_wp2
  exact bodyPost_ret (results_cell_row rfl _ _ w.heap.size _ _ (0, 0) _ rfl (heap_alloc_new w _) Tryz.underlying24 rfl kR) rfl ⟨rfl, (Below.refl _ _).alloc (Nat.le_refl _) _⟩
end Go.Proofs.YtbofhoonlmikcaaGreatDoor.Sc

end
section
namespace Go.Proofs.YtbofhoonlmikcaaGreatDoor.Sc
open Go.RowKit Go.Lib

end Go.Proofs.YtbofhoonlmikcaaGreatDoor.Sc

end
section
namespace Go.Proofs.YtbofhoonlmikcaaGreatDoor.Cu
open Go.RowKit Go.Proofs.YtbofhoonlmikcaaGreatDoor Go.Proofs.YtbofhoonlmikcaaGreatDoor.Sy

theorem liftP_on (l : List UInt8) : Ec.On (liftP l) := by
  cases h : liftB l
  · rw [lift_no h]; trivial
  · obtain ⟨u, y, _, _, e, ho, _⟩ := lift_yes h
    rw [e]; exact ho
theorem list32 (m : List UInt8) (h : m.length = 32) : ∃ a0 a1 a2 a3 a4 a5 a6 a7 a8 a9 a10 a11 a12 a13 a14 a15 a16 a17 a18 a19 a20 a21 a22 a23 a24 a25 a26 a27 a28 a29 a30 a31 : UInt8, m = [a0, a1, a2, a3, a4, a5, a6, a7, a8, a9, a10, a11, a12, a13, a14, a15, a16, a17, a18, a19, a20, a21, a22, a23, a24, a25, a26, a27, a28, a29, a30, a31] := by
  match m, h with
  | [a0, a1, a2, a3, a4, a5, a6, a7, a8, a9, a10, a11, a12, a13, a14, a15, a16, a17, a18, a19, a20, a21, a22, a23, a24, a25, a26, a27, a28, a29, a30, a31], _ => exact ⟨a0, a1, a2, a3, a4, a5, a6, a7, a8, a9, a10, a11, a12, a13, a14, a15, a16, a17, a18, a19, a20, a21, a22, a23, a24, a25, a26, a27, a28, a29, a30, a31,  rfl⟩
end Go.Proofs.YtbofhoonlmikcaaGreatDoor.Cu

end
section
namespace Go.Proofs.YtbofhoonlmikcaaGreatDoor.Cu
open Go.RowKit Go.Proofs.YtbofhoonlmikcaaGreatDoor Go.Proofs.YtbofhoonlmikcaaGreatDoor.Sy
set_option maxRecDepth 100000
set_option maxHeartbeats 4000000

end Go.Proofs.YtbofhoonlmikcaaGreatDoor.Cu

end
section
namespace Go.Proofs.YtbofhoonlmikcaaGreatDoor.Cu
open Go.RowKit Go.Proofs.YtbofhoonlmikcaaGreatDoor Go.Proofs.YtbofhoonlmikcaaGreatDoor.Sy

end Go.Proofs.YtbofhoonlmikcaaGreatDoor.Cu

end
section
namespace Go.Proofs.YtbofhoonlmikcaaGreatDoor.Cu
open Go.RowKit Go.Proofs.YtbofhoonlmikcaaGreatDoor Go.Proofs.YtbofhoonlmikcaaGreatDoor.Sy

theorem eql_pt_same (w : World) (F : Slots) (o : Oper) (x y : Operand) (a b : Nat) (i : Bool) {yt : TypeId} (ho : o.op = .binOp .eql 52 x y yt) (hx : evF F x = pv a b i) (hy : evF F y = pv a b i) (ha : a < K4) (hb : b < K4) : (execOp (evF F) o).run Tryz.prog w = .ok (.value (.bool true)) w := by
  have h := eql_pt w F o x y a b i a b i ho hx hy ha hb ha hb
  have e : sameB a b i a b i = true := by
    unfold sameB
    simp
  rwa [e] at h
end Go.Proofs.YtbofhoonlmikcaaGreatDoor.Cu

end
section
namespace Go.Proofs.YtbofhoonlmikcaaGreatDoor.Cu
open Go.RowKit Go.Proofs.YtbofhoonlmikcaaGreatDoor Go.Proofs.YtbofhoonlmikcaaGreatDoor.Sy
set_option maxRecDepth 100000
set_option maxHeartbeats 4000000

theorem small_lt {v : Nat} (h : v < 18446744073709551616) : v < K4 := Nat.lt_trans h (by decide)
def l32 (f : Nat → UInt8) : List UInt8 := [f 0, f 1, f 2, f 3, f 4, f 5, f 6, f 7, f 8, f 9, f 10, f 11, f 12, f 13, f 14, f 15, f 16, f 17, f 18, f 19, f 20, f 21, f 22, f 23, f 24, f 25, f 26, f 27, f 28, f 29, f 30, f 31]
theorem lP {n : Nat} (h : n < K4 := by first | assumption | exact small_lt (by assumption) | exact pX_lt _ | exact pY_lt _ | exact lt4 _ | exact Sc.mod_lt _ | decide +kernel) : n < K4 := h
theorem l32_len (f : Nat → UInt8) : (l32 f).length = 32 := rfl
theorem l32_of (l : List UInt8) (h : l.length = 32) : ∃ f, l = l32 f := by
  obtain ⟨a0, a1, a2, a3, a4, a5, a6, a7, a8, a9, a10, a11, a12, a13, a14, a15, a16, a17, a18, a19, a20, a21, a22, a23, a24, a25, a26, a27, a28, a29, a30, a31, rfl⟩ := list32 l h
  exact ⟨fun j => ([a0, a1, a2, a3, a4, a5, a6, a7, a8, a9, a10, a11, a12, a13, a14, a15, a16, a17, a18, a19, a20, a21, a22, a23, a24, a25, a26, a27, a28, a29, a30, a31]).getD j 0, rfl⟩
def tml (k x y : Nat) (i : Bool) : List Value := fws k ++ (fws x ++ (fws y ++ [Value.bool i]))
def pml (x y : Nat) (i : Bool) : List Value := fws x ++ (fws y ++ [Value.bool i])
theorem sameB_self (a b : Nat) (i : Bool) : sameB a b i a b i = true := by
  unfold sameB
  simp
theorem multi2 {w : World} {g k x y l u v : Nat} {i j : Bool} {t : TypeId} {P Q R : Pt} (hk : k < K4) (hx : x < K4) (hy : y < K4) (hl : l < K4) (hu : u < K4) (hv : v < K4) (h1 : dec x y i = P) (h2 : dec u v j = Q) (hb : Blk w g t (tml k x y i ++ (tml l u v j)).toArray) (hR : Ec.add finv (Ec.nm finv (k % Sc.pM) P) (Ec.nm finv (l % Sc.pM) Q) = R) :
    Calls Tryz.prog 65 #[.slice (some ⟨g, 0, none⟩) 2 2] w (Gets w (pv (pX R) (pY R) (pI R))) := by
  have hr : w.rangeAt g 0 (tml k x y i ++ tml l u v j) := blk_range hb (by rw [List.drop_zero]; exact List.take_of_length_le (Nat.le_refl _))
  have h := multi_any w (some ⟨g, 0, none⟩) g 0 2 2 (fun j' => if j' = 0 then ⟨k, x, y, i⟩ else ⟨l, u, v, j⟩) (Nat.le_refl _) (by decide) (fun j' => by
    show Trm.ok (if j' = 0 then _ else _)
    split
    · exact ⟨hk, hx, hy⟩
    · exact ⟨hl, hu, hv⟩) (fun _ => ⟨rfl, hb.lt, fun j' hj => by
    rcases j' with _ | _ | j'
    · exact range_left hr
    · exact range_right hr rfl
    · omega⟩)
  have e0 : Ec.sumL finv (fun t => Ec.nm finv ((fun j' => if j' = 0 then (⟨k, x, y, i⟩ : Trm) else ⟨l, u, v, j⟩) t).kn ((fun j' => if j' = 0 then (⟨k, x, y, i⟩ : Trm) else ⟨l, u, v, j⟩) t).pt) (List.range 2) = R := by
    show Ec.add finv (Ec.add finv none (Ec.nm finv (k % Sc.pM) (dec x y i))) (Ec.nm finv (l % Sc.pM) (dec u v j)) = _
    rw [Ec.zero_add, h1, h2, hR]
  rw [e0, ptv_parts] at h
  exact h
theorem mulR_of {P R : Pt} {k a b : Nat} {i : Bool} (hk : k < K4) (ha : a < K4) (hb : b < K4) (h1 : dec a b i = P) (he : Ec.nm finv (k % Sc.pM) P = R) (w : World) : Calls Tryz.prog 42 #[fv k, pv a b i] w (Gets w (pv (pX R) (pY R) (pI R))) := by
  have h := mulRe_any w k a b i hk ha hb
  rw [h1, he, ptv_parts] at h
  exact h
theorem val_any (w : World) (v : Nat) (hv : v < 18446744073709551616) (x y : Nat) (i : Bool) (hx : x < K4) (hy : y < K4) (k : Nat) (hk : k < K4) : Calls Tryz.prog 25 #[.int .u64 ((v : Nat) : Int), pv x y i, fv k] w (Gets w (ptv (valP v (dec x y i) k))) := by
  refine Sy.enter (args := [.int .u64 ((v : Nat) : Int), pv x y i, fv k]) Tryz.func25 rfl kL ?_
  refine sC ?_
  refine sM 52 (pcs x y i) (fun g0 => ?_)
  refine sM 24 (fcs k) (fun g1 => ?_)
  refine sM 52 (pcs 0 0 false) (fun g2 => ?_)
  refine sH (fun j => j == 9) ?_
  refine sZ 0 rfl (.int .u64 ((v : Nat) : Int)) <| sD 1 rfl (fv v) (qF 66 #[.int .u64 ((v : Nat) : Int)] (fun w => Sc.of_any w v hv)) <| sD 2 rfl (pv x y i) (qL 0 g0 0 9 52 52 (pcs x y i) rfl Tryz.underlying52) <| sZ 3 rfl (trv v x y i) <| sD 4 rfl (fv k) (qL 1 g1 0 4 24 24 (fcs k) rfl Tryz.underlying24) <| sD 5 rfl (pv (pX bP) (pY bP) (pI bP)) (qF 67 #[] (fun w => by rw [← ptv_parts]; exact base_c w)) <| sZ 6 rfl (trv k (pX bP) (pY bP) (pI bP)) ?_
  refine Sy.makeD 7 rfl kR kR 105 (tml v x y i ++ (tml k (pX bP) (pY bP) (pI bP))).toArray (fun g => .slice (some ⟨g, 0, none⟩) 2 2) kF (fun g3 => ?_)
  obtain ⟨R1, hR1⟩ : ∃ P : Pt, P = Ec.add finv (Ec.nm finv (v % Sc.pM) (dec x y i)) (Ec.nm finv (k % Sc.pM) bP) := ⟨_, rfl⟩
  have oR1 : Ec.On R1 := by rw [hR1]; exact Ec.On.add fld ((dec_on _ _ _).nm fld _) (bP_on.nm fld _)
  refine sD 8 rfl (pv (pX R1) (pY R1) (pI R1)) (qG 65 #[.slice (some ⟨g3, 0, none⟩) 2 2] (fun w hw => multi2 lP lP lP lP lP lP rfl (dec_parts bP_on)  (hw.get (i := 3) rfl) hR1.symm)) <| sX 9 rfl 2 g2 52 (pcs 0 0 false) (pcs (pX R1) (pY R1) (pI R1)) (wS 0 52 (pcs (pX R1) (pY R1) (pI R1)) rfl) ?_
  refine sI ?_
  refine Sy.ret ?_
  rw [show (ptv (valP v (dec x y i) k) : Value) = pv (pX R1) (pY R1) (pI R1) from by rw [← ptv_parts, hR1]; rfl]
  exact rC (v := pv (pX R1) (pY R1) (pI R1)) 52 g2 2 (pcs (pX R1) (pY R1) (pI R1)) rfl Tryz.underlying52
theorem val_of {P R : Pt} {v x y k : Nat} {i : Bool} (hv : v < 18446744073709551616) (hx : x < K4) (hy : y < K4) (hk : k < K4) (h1 : dec x y i = P) (hR : valP v P k = R) (w : World) : Calls Tryz.prog 25 #[.int .u64 ((v : Nat) : Int), pv x y i, fv k] w (Gets w (pv (pX R) (pY R) (pI R))) := by
  have h := val_any w v hv x y i hx hy k hk
  rw [h1, hR, ptv_parts] at h
  exact h
theorem alive7 (w : World)  : Calls Tryz.prog 22 #[] w (Gets w (.bool true)) := by
  obtain ⟨R3, hR3⟩ : ∃ P : Pt, P = Ec.nm finv (3 % Sc.pM) bP := ⟨_, rfl⟩
  refine Sy.enter (args := []) Tryz.func22 rfl kL ?_
  refine sC ?_
  refine sP (.bool false) ?_
  refine sA ?_
  refine sS (pv (pX bP) (pY bP) (pI bP)) (qF 43 #[] (fun w => by rw [← ptv_parts]; exact baseR_c w)) ?_
  refine sM 52 (pcs 0 0 false) (fun g0 => ?_)
  refine sW 0 g0 52 (pcs 0 0 false) (pcs (pX bP) (pY bP) (pI bP)) (wS 0 52 (pcs (pX bP) (pY bP) (pI bP)) rfl) ?_
  refine sH (fun j => false) ?_
  refine sD 0 rfl (pv (pX bP) (pY bP) (pI bP)) (qL 0 g0 0 9 52 52 (pcs (pX bP) (pY bP) (pI bP)) rfl Tryz.underlying52) <| sZ 1 rfl (fv 0) <| sD 2 rfl (pv (pX bP) (pY bP) (pI bP)) (qF 25 #[.int .u64 1, pv (pX bP) (pY bP) (pI bP), fv 0] (fun w => by have q := val_of (v := 1) (k := 0) (by decide) (pX_lt bP) (pY_lt bP) (by decide) (dec_parts bP_on) valP_base1 w; exact q)) <| sD 3 rfl (pv (pX bP) (pY bP) (pI bP)) (qL 0 g0 0 9 52 52 (pcs (pX bP) (pY bP) (pI bP)) rfl Tryz.underlying52) <| sD 4 rfl (.bool true) (Quiet.pure (fun w => eql_pt_same w _ _ _ _ _ _ _ rfl rfl rfl lP lP)) <| sZ 5 rfl (.bool true) <| sD 6 rfl (pv (pX bP) (pY bP) (pI bP)) (qL 0 g0 0 9 52 52 (pcs (pX bP) (pY bP) (pI bP)) rfl Tryz.underlying52) <| sZ 7 rfl (fv 0) ?_
  refine sD 8 rfl (pv 0 0 true) (qF 25 #[.int .u64 0, pv (pX bP) (pY bP) (pI bP), fv 0] (fun w => by have q := val_of (v := 0) (k := 0) (by decide) (pX_lt bP) (pY_lt bP) (by decide) (dec_parts bP_on) valP_base0 w; exact q)) <| sD 9 rfl (pv 0 0 true) (qF 62 #[] (zeroR_c)) <| sD 10 rfl (.bool true) (Quiet.pure (fun w => eql_pt_same w _ _ _ _ _ _ _ rfl rfl rfl lP lP)) <| sZ 11 rfl (.bool true) <| sZ 12 rfl (.bool true) <| sD 13 rfl (pv (pX bP) (pY bP) (pI bP)) (qL 0 g0 0 9 52 52 (pcs (pX bP) (pY bP) (pI bP)) rfl Tryz.underlying52) <| sZ 14 rfl (fv 1) <| sD 15 rfl (pv (pX R3) (pY R3) (pI R3)) (qF 25 #[.int .u64 2, pv (pX bP) (pY bP) (pI bP), fv 1] (fun w => by have q := val_of (v := 2) (k := 1) (by decide) (pX_lt bP) (pY_lt bP) (by decide) (dec_parts bP_on) (valP_base2.trans hR3.symm) w; exact q)) ?_
  refine sZ 16 rfl (fv 3) <| sD 17 rfl (pv (pX bP) (pY bP) (pI bP)) (qL 0 g0 0 9 52 52 (pcs (pX bP) (pY bP) (pI bP)) rfl Tryz.underlying52) <| sD 18 rfl (pv (pX R3) (pY R3) (pI R3)) (qF 42 #[fv 3, pv (pX bP) (pY bP) (pI bP)] (fun w => mulR_of (k := 3) (by decide) (pX_lt bP) (pY_lt bP) (dec_parts bP_on) hR3.symm w)) <| sD 19 rfl (.bool true) (Quiet.pure (fun w => eql_pt_same w _ _ _ _ _ _ _ rfl rfl rfl lP lP)) <| sZ 20 rfl (.bool true) <| sZ 21 rfl (.bool true) ?_
  refine sI ?_
  refine Sy.ret ?_
  exact rV (.bool true) rfl
end Go.Proofs.YtbofhoonlmikcaaGreatDoor.Cu

end
section
namespace Go.Proofs.YtbofhoonlmikcaaGreatDoor.Cu
open Go.RowKit Go.Proofs.YtbofhoonlmikcaaGreatDoor Go.Proofs.YtbofhoonlmikcaaGreatDoor.Sy
set_option maxRecDepth 100000

theorem PSrc.below {w w' : World} {A : Option Addr} {m : Nat} {T : Nat → Pr} (h : PSrc w A m T) (hb : Below w.heap.size w w') : PSrc w' A m T := fun hm => by
  obtain ⟨b, o, hA, hl, hT⟩ := h hm
  exact ⟨b, o, hA, Nat.lt_of_lt_of_le hl hb.size, fun j hj => rangeB (hT j hj) hb hl⟩
set_option maxHeartbeats 1000000 in
theorem values_any (w : World) (A : Option Addr) (m cap : Nat) :
    Calls Tryz.prog 79 #[.slice A m cap] w (GetsN w fun v M => ∃ g1, v = .func (.func 126) #[] #[.pointer (some ⟨g1, 0, none⟩)] ∧ M = [(g1, 71, #[.slice A m cap])]) := by
  go_enter Tryz.func79, Tryz.ntmps79
  go_wp2
  go_ret
  refine ⟨_, _, rfl, ⟨_, rfl, rfl⟩, (Below.refl _ _).alloc (Nat.le_refl _) _, fun g t cs hm => ?_, by simp⟩
  simp only [List.mem_singleton, Prod.mk.injEq] at hm
  obtain ⟨rfl, rfl, rfl⟩ := hm
  exact ⟨Nat.le_refl _, Blk.new w _ _⟩
end Go.Proofs.YtbofhoonlmikcaaGreatDoor.Cu

end
section
namespace Go.Proofs.YtbofhoonlmikcaaGreatDoor.Cu
open Go.RowKit Go.Proofs.YtbofhoonlmikcaaGreatDoor Go.Proofs.YtbofhoonlmikcaaGreatDoor.Sy

def balB (S R : Pt) : Bool := sameB (pX S) (pY S) (pI S) (pX R) (pY R) (pI R)
theorem balB_self {S R : Pt} (h : S = R) : balB S R = true := by
  rw [h]
  exact sameB_self _ _ _
set_option maxHeartbeats 4000000 in
set_option maxRecDepth 100000 in
theorem bal_any (w : World) (A : Option Addr) (m c : Nat) (T : Nat → Pr) (A2 : Option Addr) (m2 c2 : Nat) (U : Nat → Pr) (hm : m ≤ 4611686018427387904) (hT : ∀ j, (T j).ok) (hs : PSrc w A m T) (hm2 : m2 ≤ 4611686018427387904) (hT2 : ∀ j, (U j).ok) (hs2 : PSrc w A2 m2 U) : Calls Tryz.prog 38 #[.slice A m c, .slice A2 m2 c2] w (Gets w (.bool (balB (sumP T (List.range m)) (sumP U (List.range m2))))) := by
  refine Sy.enter (args := [.slice A m c, .slice A2 m2 c2]) Tryz.func38 rfl kL ?_
  refine sC ?_
  refine sP (.bool false) ?_
  refine sA ?_
  refine sP (.slice A m c) ?_
  refine Sy.callN kR 79 #[.slice A m c] kF (fun v M => ∃ g1, v = .func (.func 126) #[] #[.pointer (some ⟨g1, 0, none⟩)] ∧ M = [(g1, 71, #[.slice A m c])]) (fun w _ => values_any w _ _ _) (fun vq Mq hR0 => ?_)
  obtain ⟨u1, rfl, rfl⟩ := hR0
  obtain ⟨R1, hR1⟩ : ∃ P : Pt, P = (sumP T (List.range m)) := ⟨_, rfl⟩
  have oR1 : Ec.On R1 := by rw [hR1]; exact sumP_on _ _
  refine sS (pv (pX R1) (pY R1) (pI R1)) (qG 78 #[.func (.func 126) #[] #[.pointer (some ⟨u1, 0, none⟩)]] (fun w hw => by rw [← ptv_parts, hR1]; exact sum_any w u1 m c A T hm hT (PSrc.below hs hw.below) (hw.get (i := 0) rfl))) <| sP (.slice A2 m2 c2) ?_
  refine Sy.callN kR 79 #[.slice A2 m2 c2] kF (fun v M => ∃ g1, v = .func (.func 126) #[] #[.pointer (some ⟨g1, 0, none⟩)] ∧ M = [(g1, 71, #[.slice A2 m2 c2])]) (fun w _ => values_any w _ _ _) (fun vq Mq hR0 => ?_)
  obtain ⟨u2, rfl, rfl⟩ := hR0
  obtain ⟨R2, hR2⟩ : ∃ P : Pt, P = (sumP U (List.range m2)) := ⟨_, rfl⟩
  have oR2 : Ec.On R2 := by rw [hR2]; exact sumP_on _ _
  refine sS (pv (pX R2) (pY R2) (pI R2)) (qG 78 #[.func (.func 126) #[] #[.pointer (some ⟨u2, 0, none⟩)]] (fun w hw => by rw [← ptv_parts, hR2]; exact sum_any w u2 m2 c2 A2 U hm2 hT2 (PSrc.below hs2 hw.below) (hw.get (i := 1) rfl))) ?_
  obtain ⟨b1, hb1⟩ : ∃ z : Bool, z = sameB (pX R1) (pY R1) (pI R1) (pX R2) (pY R2) (pI R2) := ⟨_, rfl⟩
  cases b1
  · refine sS (.bool false) (Quiet.pure (fun w => (eql_pt w _ _ _ _ _ _ _ _ _ _ rfl rfl rfl lP lP lP lP).trans (by rw [← hb1]))) <| sP (.bool false) ?_
    refine sG ?_
    refine Sy.ret ?_
    rw [show (.bool (balB (sumP T (List.range m)) (sumP U (List.range m2))) : Value) = .bool false from by unfold balB; rw [← hR1, ← hR2]; rw [← hb1]]
    exact rV (.bool false) rfl
  · refine sS (.bool true) (Quiet.pure (fun w => (eql_pt w _ _ _ _ _ _ _ _ _ _ rfl rfl rfl lP lP lP lP).trans (by rw [← hb1]))) <| sP (.bool true) ?_
    refine sG ?_
    refine Sy.ret ?_
    rw [show (.bool (balB (sumP T (List.range m)) (sumP U (List.range m2))) : Value) = .bool true from by unfold balB; rw [← hR1, ← hR2]; rw [← hb1]]
    exact rV (.bool true) rfl
end Go.Proofs.YtbofhoonlmikcaaGreatDoor.Cu

end
section
namespace Go.Proofs.YtbofhoonlmikcaaGreatDoor
open Go.RowKit Go.Lib

end Go.Proofs.YtbofhoonlmikcaaGreatDoor

end
section
namespace Go.Proofs.YtbofhoonlmikcaaGreatDoor.Sy
open Go.RowKit Go.Proofs.YtbofhoonlmikcaaGreatDoor

section
variable {P : Program} {w0 : Base} {n : Nat} {Q : Exit → Act → World → Prop} {F : Slots} {L : Blocks}
end
end Go.Proofs.YtbofhoonlmikcaaGreatDoor.Sy

end
section
namespace Go.Proofs.YtbofhoonlmikcaaGreatDoor.Cu
open Go.RowKit Go.Proofs.YtbofhoonlmikcaaGreatDoor Go.Proofs.YtbofhoonlmikcaaGreatDoor.Sy

end Go.Proofs.YtbofhoonlmikcaaGreatDoor.Cu

end
section
namespace Go.Proofs.YtbofhoonlmikcaaGreatDoor.Cu
open Go.RowKit Go.Proofs.YtbofhoonlmikcaaGreatDoor Go.Proofs.YtbofhoonlmikcaaGreatDoor.Sy
set_option maxRecDepth 100000
set_option maxHeartbeats 4000000

end Go.Proofs.YtbofhoonlmikcaaGreatDoor.Cu

end
section
namespace Go.Proofs.YtbofhoonlmikcaaGreatDoor.Cu
open Go.RowKit Go.Proofs.YtbofhoonlmikcaaGreatDoor Go.Proofs.YtbofhoonlmikcaaGreatDoor.Sy

theorem setAll_all : ∀ (vs : List Value) (o : Nat) (cs : Array Value), o + vs.length = cs.size → setAll cs o vs = (cs.toList.take o ++ vs).toArray
  | [], o, cs, h => by
    rw [List.append_nil, List.take_of_length_le (by simp at h ⊢; omega)]
    simp [setAll]
  | v :: r, o, cs, h => by
    have hlt : o < cs.size := by simp at h; omega
    rw [setAll, setAll_all r (o + 1) _ (by simp at h ⊢; omega)]
    congr 1
    rw [Array.toList_setIfInBounds, List.take_set, List.take_succ_eq_append_getElem (by simpa using hlt), List.set_append_right _ _ (by rw [List.length_take]; exact Nat.min_le_left _ _)]
    have : (cs.toList.take o).length = o := by simp; omega
    simp [this]
theorem key_set (cs : Array Value) (l : List UInt8) (h : l.length = cs.size) : setAll cs 0 (l.map bv).toArray.toList = (l.map bv).toArray := by
  have := setAll_all (l.map bv) 0 cs (by simp; omega)
  simpa using this
theorem key_sz (l : List UInt8) {n : Nat} (h : l.length = n) : (l.map bv).toArray.size = n := by simp; omega
theorem key_one (l : List UInt8) : (l.map bv).toArray.all (·.oneCell') = true := by simp [bv, Value.oneCell']
end Go.Proofs.YtbofhoonlmikcaaGreatDoor.Cu

end
section
namespace Go.Proofs.YtbofhoonlmikcaaGreatDoor.Cu
open Go.RowKit Go.Proofs.YtbofhoonlmikcaaGreatDoor Go.Proofs.YtbofhoonlmikcaaGreatDoor.Sy
set_option maxRecDepth 100000

def genNm : ByteArray := ⟨#[116, 111, 108, 108, 104, 111, 117, 115, 101, 47, 103, 101, 110, 101, 114, 97, 116, 111, 114]⟩
def genX (nm : List UInt8) (k : Nat) : List UInt8 := Sh.taggedS genNm.data.toList (nm ++ [UInt8.ofNat k])
theorem genX_length (nm : List UInt8) (k : Nat) : (genX nm k).length = 32 := Sh.sum_length _
def pickP (f : Nat → Bool) (g : Nat → Pt) (d : Pt) (n : Nat) : Pt := ((List.range n).find? f).elim d g
theorem pick_first {f : Nat → Bool} {g : Nat → Pt} {d : Pt} {n k : Nat} (hk : k < n) (h : ∀ j, j < k → f j = false) (hb : f k = true) : pickP f g d n = g k := by
  have e : (List.range n).find? f = some k := by
    rw [List.find?_range_eq_some]
    exact ⟨hb, List.mem_range.2 hk, fun j hj => by rw [h j hj]; rfl⟩
  unfold pickP
  rw [e]
  rfl
theorem pick_none {f : Nat → Bool} {g : Nat → Pt} {d : Pt} {n : Nat} (h : ∀ j, j < n → f j = false) : pickP f g d n = d := by
  have e : (List.range n).find? f = none := by
    rw [List.find?_eq_none]
    intro j hj
    rw [h j (List.mem_range.1 hj)]
    exact fun h => by cases h
  unfold pickP
  rw [e]
  rfl
theorem pick_cases (f : Nat → Bool) (g : Nat → Pt) (d : Pt) (n : Nat) : pickP f g d n = d ∨ ∃ k, f k = true ∧ pickP f g d n = g k := by
  unfold pickP
  cases e : (List.range n).find? f with
  | none => exact .inl rfl
  | some k => exact .inr ⟨k, List.find?_some e, rfl⟩
def genP (nm : List UInt8) : Pt := pickP (fun i => liftB (genX nm i)) (fun i => liftP (genX nm i)) bP 256
theorem gen_first {nm : List UInt8} {k : Nat} (hk : k < 256) (h : ∀ j, j < k → liftB (genX nm j) = false) (hb : liftB (genX nm k) = true) : genP nm = liftP (genX nm k) := pick_first (f := fun i => liftB (genX nm i)) (g := fun i => liftP (genX nm i)) hk h hb
theorem gen_none {nm : List UInt8} (h : ∀ j, j < 256 → liftB (genX nm j) = false) : genP nm = bP := pick_none (f := fun i => liftB (genX nm i)) (g := fun i => liftP (genX nm i)) h
theorem gen_cases (nm : List UInt8) : genP nm = bP ∨ ∃ k, liftB (genX nm k) = true ∧ genP nm = liftP (genX nm k) := pick_cases (fun i => liftB (genX nm i)) (fun i => liftP (genX nm i)) bP 256
theorem genP_on (nm : List UInt8) : Ec.On (genP nm) := by
  rcases gen_cases nm with h | ⟨k, _, h⟩
  · rw [h]; exact bP_on
  · rw [h]; exact liftP_on _
def qX : Pt → Nat
  | none => 0
  | some (x, _) => x.val
def qY : Pt → Nat
  | none => 0
  | some (_, y) => y.val
def qI : Pt → Bool
  | none => true
  | some _ => false
theorem ptv_q : ∀ P : Pt, ptv P = pv (qX P) (qY P) (qI P)
  | none => rfl
  | some (_, _) => rfl
theorem conv_u8 (w : World) (F : Slots) (o : Oper) (x : Operand) (k : Nat) (hk : k < 256) (ho : o.op = .convert 3 5 x) (hx : evF F x = .int .i64 (k : Int)) : (execOp (evF F) o).run Tryz.prog w = .ok (.value (bv (UInt8.ofNat k))) w := by
  have h : (convert 3 5 (.int .i64 (k : Int))).run Tryz.prog w = .ok (bv (UInt8.ofNat k)) w := by
    have e : (UInt8.ofNat k).toNat = k := by rw [UInt8.toNat_ofNat']; omega
    unfold bv
    rw [e]
    go_simp
    exact wrap_u8 (by omega) (by omega)
  unfold execOp
  simp only [ho, hx, Sem.run_bind, h, Result.andThen_ok, Sem.run_pure]
theorem texts_gen {w : World} (nm : List UInt8) (hn : nm.length = 32) (k c g0 g1 : Nat) (t0 t1 : TypeId) (A : Option Addr) (hA : Sh.Src w A nm) (hc : 32 ≤ c) (hc2 : c ≤ 9223372036854775807) (h0 : Blk w g0 t0 #[bv (UInt8.ofNat k)]) (h1 : Blk w g1 t1 #[.slice A 32 c, .slice (some ⟨g0, 0, none⟩) 1 1]) :
    Sh.Texts w (some ⟨g1, 0, none⟩) [⟨A, nm, c⟩, ⟨some ⟨g0, 0, none⟩, [UInt8.ofNat k], 1⟩] := fun _ => by
  refine ⟨g1, 0, rfl, h1.lt, fun j y hy => ?_⟩
  rw [Nat.zero_add]
  rcases j with _ | _ | j
  · cases hy
    refine ⟨(h1.cell 0).trans ?_, hA, by show nm.length ≤ c; omega, hc2⟩
    show some (Value.slice A 32 c) = some (Value.slice A nm.length c)
    rw [hn]
  · cases hy
    exact ⟨h1.cell 1, Sh.Src.of_blk h0, by show 1 ≤ 1; omega, by show 1 ≤ 9223372036854775807; omega⟩
  · cases hy
theorem tag_gen {f : FuncId} {tb : Nat} (nm : List UInt8) (hn : nm.length = 32) (k c g0 g1 : Nat) (t0 t1 : TypeId) (A : Option Addr)
    (hf : ∀ (w : World) (s : ByteArray) (T : Option Addr) (ts : List Sh.Tx) (ct : Nat), Sh.Texts w T ts → Sh.TabAt w tb → s.size ≤ 1000000000 → (Sh.cat ts).length ≤ 1000000000 → ts.length ≤ 1000000000 → Calls Tryz.prog f #[.string s, .slice T ts.length ct] w fun e w' => e = .returned (Sh.dv (Sh.taggedS s.data.toList (Sh.cat ts))) ∧ Below w.heap.size w w')
    (w : World) (hA : Sh.Src w A nm) (hc : 32 ≤ c) (hc2 : c ≤ 9223372036854775807) (h0 : Blk w g0 t0 #[bv (UInt8.ofNat k)]) (h1 : Blk w g1 t1 #[.slice A 32 c, .slice (some ⟨g0, 0, none⟩) 1 1]) (ht : Sh.TabAt w tb) :
    Calls Tryz.prog f #[.string genNm, .slice (some ⟨g1, 0, none⟩) 2 2] w (Gets w (.agg ((genX nm k).map bv).toArray)) := by
  have e : Sh.cat [⟨A, nm, c⟩, ⟨some ⟨g0, 0, none⟩, [UInt8.ofNat k], 1⟩] = nm ++ [UInt8.ofNat k] := by simp [Sh.cat]
  have h := hf w genNm _ _ 2 (texts_gen nm hn k c g0 g1 t0 t1 A hA hc hc2 h0 h1) ht (by decide) (by rw [e, List.length_append, hn]; show 32 + 1 ≤ 1000000000; decide) (by show 2 ≤ 1000000000; decide)
  rw [e] at h
  exact h
theorem all_snoc {nm : List UInt8} {pre : List (Fin 256)} {x : Fin 256} (h : ∀ y ∈ pre, liftB (genX nm y.val) = false) (hx : false = liftB (genX nm x.val)) : ∀ y ∈ pre ++ [x], liftB (genX nm y.val) = false := fun y hy => by
  rcases List.mem_append.1 hy with hy | hy
  · exact h y hy
  · rw [List.mem_singleton.1 hy]; exact hx.symm
def lastP (nm : List UInt8) (pre : List (Fin 256)) : Pt := match pre.getLast? with
  | some x => liftP (genX nm x.val)
  | none => none
theorem lastP_snoc (nm : List UInt8) (pre : List (Fin 256)) (x : Fin 256) : lastP nm (pre ++ [x]) = liftP (genX nm x.val) := by
  unfold lastP
  rw [List.getLast?_append]
  rfl
def GHx (nm : List UInt8) (pre : List (Fin 256)) : Prop := ∃ init x, pre = init ++ [x] ∧ (∀ y ∈ init, liftB (genX nm y.val) = false) ∧ liftB (genX nm x.val) = true
theorem before_k {nm : List UInt8} {pre : List (Fin 256)} {k : Nat} (hp : pre.map (·.1) = List.range k) (h : ∀ y ∈ pre, liftB (genX nm y.val) = false) : ∀ j, j < k → liftB (genX nm j) = false := fun j hj => by
  have : j ∈ pre.map (·.1) := by rw [hp]; exact List.mem_range.2 hj
  obtain ⟨y, hy, rfl⟩ := List.mem_map.1 this
  exact h y hy
theorem gen_stop {nm : List UInt8} {pre : List (Fin 256)} (hs : ∃ k, k ≤ 256 ∧ pre.map (·.1) = List.range k) (hx : GHx nm pre) : lastP nm pre = genP nm := by
  obtain ⟨k, hk, hp⟩ := hs
  obtain ⟨init, x, rfl, hi, hb⟩ := hx
  have hl : init.length + 1 = k := by
    have := congrArg List.length hp
    simpa using this
  subst hl
  rw [List.range_succ, List.map_append] at hp
  obtain ⟨h1, h2⟩ := List.append_inj hp (by simp)
  have hv : x.val = init.length := by simpa using h2
  rw [lastP_snoc, gen_first x.isLt (fun j hj => before_k h1 hi j (by omega)) hb]
def caE (nm : List UInt8) (x : Fin 256) : Array Value := #[.agg ((genX nm x.val).map bv).toArray]
set_option maxHeartbeats 4000000 in
theorem cand_in (n l Bs n₀ : Nat) (nm : List UInt8) (hnm : nm.length = 32) (hb : Bs < n₀) (htb : 1 < n₀) (J Jx : List (Fin 256) → World → Prop) (W : World) (hnW : n₀ ≤ W.heap.size) (hJ : AbidesFrom W.heap.size J) (hJx : AbidesFrom W.heap.size Jx)
    (hY : ∀ pre x W1, J pre W1 → pre.length < 256 → YieldAt Fence.wide (n - 1) Tryz.prog l (caE nm x) W1 fun e W' => (e = .returned (.bool true) ∧ J (pre ++ [x]) W' ∧ KpL n₀ [] W1 W') ∨ (e = .returned (.bool false) ∧ Jx (pre ++ [x]) W'))
    (hS : Blk W Bs 47 (nm.map bv).toArray) (ht : Sh.TabAt W 1) (h0 : J [] W) :
    CallsIn Fence.wide n Tryz.prog 159 #[.func (.yield l) #[] #[], .pointer (some ⟨Bs, 0, none⟩)] W fun e W' => (∃ v, e = .returned v) ∧ ((∃ ys : List (Fin 256), ys.map (·.1) = List.range 256 ∧ J ys W') ∨ (∃ pre : List (Fin 256), (∃ k, k ≤ 256 ∧ pre.map (·.1) = List.range k) ∧ Jx pre W')) := by
  refine Sy.enterP (args := [.func (.yield l) #[] #[], .pointer (some ⟨Bs, 0, none⟩)]) Tryz.func159 rfl kL ?_
  refine sC ?_
  refine sP (.int .i64 0) ?_
  refine sG ?_
  refine Sy.block ?_
  refine Sy.loopP 256 (fun k1 => [(0, .func (.yield l) #[] #[]), (1, .pointer (some ⟨Bs, 0, none⟩)), (5, .int .i64 ((k1 : Nat) : Int))]) (fun k1 w => ∃ pre : List (Fin 256), pre.map (·.1) = List.range k1 ∧ J pre w ∧ Below n₀ W w) (all_cons kR (all_cons kR (all_cons kR all_nil))) (fun w hg => ⟨[], rfl, abides_gr hJ h0 hg, Below.mono hg hnW⟩) (fun k1 wr hk1 hz => ?_)
  obtain ⟨pre, hpre, hj, hbw⟩ := hz
  have hlen : pre.length = k1 := by have := congrArg List.length hpre; rwa [List.length_map, List.length_range] at this
  have hSr := hS.below hbw hb
  have htr := ht.below hbw htb
  refine sC ?_
  obtain ⟨b1, hb1⟩ : ∃ z : Bool, z = decide (k1 < 256) := ⟨_, rfl⟩
  refine sS (.bool b1) (Quiet.pure (exec_int .lss _ _ _ .i64 _ _ _ rfl rfl rfl (int_lss _ _ _ _ _ (by rw [hb1]; exact decide_eq_decide.2 (by omega))))) ?_
  refine sG ?_
  refine Sy.seq ?_
  cases b1
  · have lb1 : ¬ (k1 < 256) := of_decide_eq_false hb1.symm
    refine sU ?_
    refine Sy.exit ?_
    refine Sy.then_exit ?_
    refine Sy.then_exit ?_
    obtain rfl : k1 = 256 := by omega
    refine Sy.in_exit ?_
    exact Sy.retP rfl (fun v w3 hg => ⟨⟨_, rfl⟩, .inl ⟨pre, hpre, abides_gr hJ hj hg⟩⟩) (.inr rfl)
  · have lb1 : k1 < 256 := of_decide_eq_true hb1.symm
    refine sT ?_
    refine Sy.skip ?_
    refine Sy.then_ ?_
    refine Sy.seq ?_
    have hx : k1 < 256 := by omega
    refine Sy.block ?_
    refine sC ?_
    refine sP (.int .i64 ((k1 : Nat) : Int)) <| sP (.int .i64 ((k1 : Nat) : Int)) ?_
    refine sA ?_
    refine sP (.slice (some ⟨Bs, 0, none⟩) 32 32) <| sP (.int .i64 ((k1 : Nat) : Int)) <| sS (bv (UInt8.ofNat k1)) (Quiet.pure (fun w => conv_u8 w _ _ _ k1 (by omega) rfl rfl)) ?_
    refine Sy.make kR 5 #[bv (UInt8.ofNat k1)] (fun g => .slice (some ⟨g, 0, none⟩) 1 1) kF (fun g0 => ?_)
    refine Sy.make kR 25 #[.slice (some ⟨Bs, 0, none⟩) 32 32, .slice (some ⟨g0, 0, none⟩) 1 1] (fun g => .slice (some ⟨g, 0, none⟩) 2 2) kF (fun g1 => ?_)
    refine sS (.agg ((genX nm k1).map bv).toArray) (qG 86 #[.string genNm, .slice (some ⟨g1, 0, none⟩) 2 2] (fun w hw => tag_gen nm hnm k1 32 g0 g1 _ _ _ Sh.tagged_any w (Sh.Src.of_blk (hSr.below hw.below hSr.lt)) (by decide) (by decide) (hw.get (i := 0) rfl) (hw.get (i := 1) rfl) (htr.below hw.below htr.lt))) ?_
    refine sM 47 (.int .u8 0 :: .int .u8 0 :: [.int .u8 0, .int .u8 0, .int .u8 0, .int .u8 0, .int .u8 0, .int .u8 0, .int .u8 0, .int .u8 0, .int .u8 0, .int .u8 0, .int .u8 0, .int .u8 0, .int .u8 0, .int .u8 0, .int .u8 0, .int .u8 0, .int .u8 0, .int .u8 0, .int .u8 0, .int .u8 0, .int .u8 0, .int .u8 0, .int .u8 0, .int .u8 0, .int .u8 0, .int .u8 0, .int .u8 0, .int .u8 0, .int .u8 0, .int .u8 0]).toArray (fun g2 => ?_)
    refine sW 2 g2 47 (.int .u8 0 :: .int .u8 0 :: [.int .u8 0, .int .u8 0, .int .u8 0, .int .u8 0, .int .u8 0, .int .u8 0, .int .u8 0, .int .u8 0, .int .u8 0, .int .u8 0, .int .u8 0, .int .u8 0, .int .u8 0, .int .u8 0, .int .u8 0, .int .u8 0, .int .u8 0, .int .u8 0, .int .u8 0, .int .u8 0, .int .u8 0, .int .u8 0, .int .u8 0, .int .u8 0, .int .u8 0, .int .u8 0, .int .u8 0, .int .u8 0, .int .u8 0, .int .u8 0]).toArray ((genX nm k1).map bv).toArray (Writes.store 0 47 ((genX nm k1).map bv).toArray _ _ rfl kR kR (by rw [key_sz (genX nm k1) (genX_length nm k1)]; kernel_rfl) (by rw [key_sz (genX nm k1) (genX_length nm k1)]; exact Nat.le_of_ble_eq_true kR) (key_one _) (key_set _ _ (by rw [(genX_length nm k1)]; kernel_rfl))) ?_
    refine sG ?_
    refine Sy.seq ?_
    refine Sy.regionY 2 (by rintro ⟨_, _, ⟨_, hv⟩, _⟩; cases hv) kR ?_
    refine sP (.func (.yield l) #[] #[]) <| sS (.agg ((genX nm k1).map bv).toArray) (Quiet.load 2 g2 0 32 47 47 ((genX nm k1).map bv).toArray _ _ rfl kR kR Tryz.underlying47 rfl kR _ (key_whole (genX nm k1) (genX_length nm k1)) (key_size (genX nm k1) (genX_length nm k1))) ?_
    refine Sy.nil ?_
    refine Sy.yieldX (ro := none) rfl (by rintro ⟨_, _, ⟨_, hv⟩, _⟩; cases hv) kR kR l #[.agg ((genX nm k1).map bv).toArray] kF (fun e W' => (e = .returned (.bool true) ∧ J (pre ++ [⟨k1, hx⟩]) W' ∧ Below n₀ W W') ∨ (e = .returned (.bool false) ∧ Jx (pre ++ [⟨k1, hx⟩]) W')) (fun w hg => yield_mono (hY pre ⟨k1, hx⟩ w (abides_gr hJ hj hg) (by omega)) (fun e w' q => q.imp (fun q => ⟨q.1, q.2.1, (hbw.trans (Below.mono hg (Nat.le_trans hnW hbw.size))).trans q.2.2.1⟩) id)) (fun e w' q => q.elim (fun q => ⟨_, q.1⟩) (fun q => ⟨_, q.1⟩)) rfl (fun w2 b hr => ?_)
    cases b
    · have hx2 := hr.elim (fun q => by cases q.1) (fun q => q.2)
      refine sP (.bool true) ?_
      refine sG ?_
      refine sT ?_
      refine Sy.ret ?_
      refine Sy.in_ret ?_
      refine Sy.then_ret ?_
      refine Sy.then_ret ?_
      refine Sy.in_ret ?_
      exact Sy.retP rfl (fun v w3 hg => ⟨⟨_, rfl⟩, .inr ⟨pre ++ [⟨k1, hx⟩], ⟨k1 + 1, by omega, by rw [List.map_append, hpre, List.range_succ]; rfl⟩, abides_gr hJx hx2 hg⟩⟩) (.inl rfl)
    · clear hbw hj
      obtain ⟨hj, hbw⟩ := hr.elim (fun q => q.2) (fun q => by cases q.1)
      refine sP (.bool false) ?_
      refine sG ?_
      refine sU ?_
      refine Sy.skip ?_
      refine Sy.in_ ?_
      refine Sy.then_ ?_
      refine Sy.region ?_
      refine sS (.int .i64 ((k1 + 1 : Nat) : Int)) (Quiet.pure (exec_int .add _ _ _ .i64 _ _ _ rfl rfl rfl (int_add _ _ _ _ _ ((wrap_i64 (by omega) (by omega)).trans (by omega))))) <| sP (.int .i64 ((k1 + 1 : Nat) : Int)) ?_
      refine Sy.nil ?_
      exact Sy.againP (by omega) (all_cons kR (all_cons kR (all_cons kR all_nil))) (fun w3 hg => ⟨pre ++ [⟨k1, hx⟩], by rw [List.map_append, hpre, List.range_succ]; rfl, abides_gr hJ hj hg, hbw.trans (Below.mono hg (Nat.le_trans hnW hbw.size))⟩)
theorem cand_stops (n Bs : Nat) (nm : List UInt8) (hnm : nm.length = 32) (w0 w : World) (hb : Below w0.heap.size w0 w) (hS : Blk w0 Bs 47 (nm.map bv).toArray) (ht : Sh.TabAt w0 1) :
    SeqStopsK Fence.wide n Tryz.prog 159 #[.pointer (some ⟨Bs, 0, none⟩)] (caE nm) (KpL w0.heap.size []) (fun ys => ys.map (·.1) = List.range 256) (fun pre => ∃ k, k ≤ 256 ∧ pre.map (·.1) = List.range k) 256 w := fun l J Jx W hW hJ hJx hY h0 => by
  have hS1 := hS.below hb hS.lt
  have ht1 := ht.below hb ht.lt
  exact cand_in n l Bs w0.heap.size nm hnm hS.lt ht.lt J Jx W (Nat.le_trans hb.size hW.size) hJ hJx hY (hS1.below hW hS1.lt) (ht1.below hW ht1.lt) h0
set_option maxHeartbeats 1000000 in
theorem cands_any (w : World) (nm : List UInt8) :
    Calls Tryz.prog 116 #[.agg (nm.map bv).toArray] w (GetsN w fun v M => ∃ g1, v = .func (.func 159) #[] #[.pointer (some ⟨g1, 0, none⟩)] ∧ M = [(g1, 47, (nm.map bv).toArray)]) := by
  go_enter Tryz.func116, Tryz.ntmps116
  go_wp2
  go_ret
  refine ⟨_, _, rfl, ⟨_, rfl, rfl⟩, (Below.refl _ _).alloc (Nat.le_refl _) _, fun g t cs hm => ?_, by simp⟩
  simp only [List.mem_singleton, Prod.mk.injEq] at hm
  obtain ⟨rfl, rfl, rfl⟩ := hm
  exact ⟨Nat.le_refl _, Blk.new w _ _⟩
end Go.Proofs.YtbofhoonlmikcaaGreatDoor.Cu

end
section
namespace Go.Proofs.YtbofhoonlmikcaaGreatDoor.Cu
open Go.RowKit Go.Proofs.YtbofhoonlmikcaaGreatDoor Go.Proofs.YtbofhoonlmikcaaGreatDoor.Sy
set_option maxRecDepth 100000
set_option maxHeartbeats 4000000

theorem first_any (w : World) (Bs : Nat) (nm : List UInt8) (hnm : nm.length = 32) (hS : Blk w Bs 47 (nm.map bv).toArray) (ht : Sh.TabAt w 1) : Calls Tryz.prog 115 #[.func (.func 159) #[] #[.pointer (some ⟨Bs, 0, none⟩)]] w (Gets w (ptv (genP nm))) := by
  refine Sy.enterM (args := [.func (.func 159) #[] #[.pointer (some ⟨Bs, 0, none⟩)]]) Tryz.func115 rfl kL ?_
  refine sC ?_
  refine sM 52 (pcs 0 0 false) (fun g0 => ?_)
  refine sG ?_
  refine Sy.seq ?_
  refine sC ?_
  refine sP (.func (.func 159) #[] #[.pointer (some ⟨Bs, 0, none⟩)]) ?_
  refine sG ?_
  refine Sy.block ?_
  refine Sy.rangeF (α := Fin 256) 159 #[.pointer (some ⟨Bs, 0, none⟩)] kR kR (enters_of Tryz.func159 kR rfl) (caE nm) [] (fun ys => ys.map (·.1) = List.range 256) (fun pre => ∃ k, k ≤ 256 ∧ pre.map (·.1) = List.range k) 256 (fun _ => rfl) (by decide) [g0] (fun pre => ∀ y ∈ pre, liftB (genX nm y.val) = false) ((fun _ h => by cases h)) (fun pre => [(g0, 52, (pcs 0 0 false))]) (fun pre => [(g0, 52, (pcs (qX (lastP nm pre)) (qY (lastP nm pre)) (qI (lastP nm pre))))]) (fun pre => GHx nm pre) [true] kR (fun _ => rfl) ?_ ?_ 1 (fun x gs => [(2, .pointer (some ⟨g0, 0, none⟩)), (3, .pointer (some ⟨(gs.getD 0 0), 0, none⟩))]) (fun x gs => [(gs.getD 0 0, 31, ((genX nm x.val).map bv).toArray)]) (fun x gs h => by match gs, h with | [_], _ => rfl) ?_ ?_ ?_ ?_
  · intro w hw
    exact ⟨w, Below.refl _ _, cand_stops 8 Bs nm hnm _ w hw.below hS ht⟩
  · intro p hp pre
    cases hp
  · intro l fz pre x
    refine Sy.regionR (by rintro ⟨_, _, h⟩; exact h) kR ⟨_, rfl⟩ ?_
    refine sM 31 (.int .u8 0 :: .int .u8 0 :: [.int .u8 0, .int .u8 0, .int .u8 0, .int .u8 0, .int .u8 0, .int .u8 0, .int .u8 0, .int .u8 0, .int .u8 0, .int .u8 0, .int .u8 0, .int .u8 0, .int .u8 0, .int .u8 0, .int .u8 0, .int .u8 0, .int .u8 0, .int .u8 0, .int .u8 0, .int .u8 0, .int .u8 0, .int .u8 0, .int .u8 0, .int .u8 0, .int .u8 0, .int .u8 0, .int .u8 0, .int .u8 0, .int .u8 0, .int .u8 0]).toArray (fun g1 => ?_)
    refine sW 1 g1 31 (.int .u8 0 :: .int .u8 0 :: [.int .u8 0, .int .u8 0, .int .u8 0, .int .u8 0, .int .u8 0, .int .u8 0, .int .u8 0, .int .u8 0, .int .u8 0, .int .u8 0, .int .u8 0, .int .u8 0, .int .u8 0, .int .u8 0, .int .u8 0, .int .u8 0, .int .u8 0, .int .u8 0, .int .u8 0, .int .u8 0, .int .u8 0, .int .u8 0, .int .u8 0, .int .u8 0, .int .u8 0, .int .u8 0, .int .u8 0, .int .u8 0, .int .u8 0, .int .u8 0]).toArray ((genX nm x.val).map bv).toArray (Writes.store 0 31 ((genX nm x.val).map bv).toArray _ _ rfl kR kR (by rw [key_sz (genX nm x.val) (genX_length nm x.val)]; kernel_rfl) (by rw [key_sz (genX nm x.val) (genX_length nm x.val)]; exact Nat.le_of_ble_eq_true kR) (key_one _) (key_set _ _ (by rw [(genX_length nm x.val)]; kernel_rfl))) ?_
    refine Sy.nil ?_
    exact Sy.apN [g1] rfl (all_cons kR (all_cons kR all_nil)) [true, true] kR
  · intro l fz pre x gs hgs hlen hH
    obtain ⟨y0, rfl⟩ : ∃ y, gs = [y] := by match gs, hgs with | [y], _ => exact ⟨y, rfl⟩
    refine Sy.block ?_
    refine Sy.seq ?_
    refine Sy.regionR (by rintro ⟨_, _, h⟩; exact h) kR ⟨_, rfl⟩ ?_
    refine sS (.agg ((genX nm x.val).map bv).toArray) (Quiet.load 1 y0 0 32 31 31 ((genX nm x.val).map bv).toArray _ _ rfl kR kR Tryz.underlying31 rfl kR _ (key_whole (genX nm x.val) (genX_length nm x.val)) (key_size (genX nm x.val) (genX_length nm x.val))) ?_
    obtain ⟨b1, hb1⟩ : ∃ z : Bool, z = liftB (genX nm x.val) := ⟨_, rfl⟩
    refine sS (.tuple #[pv (qX (liftP (genX nm x.val))) (qY (liftP (genX nm x.val))) (qI (liftP (genX nm x.val))), .bool b1]) (qF 50 #[.agg ((genX nm x.val).map bv).toArray] (fun w => by rw [← ptv_q, hb1]; exact lift_any w (genX nm x.val) (genX_length _ _))) <| sP (.tuple #[pv (qX (liftP (genX nm x.val))) (qY (liftP (genX nm x.val))) (qI (liftP (genX nm x.val))), .bool b1]) <| sP (pv (qX (liftP (genX nm x.val))) (qY (liftP (genX nm x.val))) (qI (liftP (genX nm x.val)))) <| sP (.bool b1) ?_
    refine sM 52 (pcs 0 0 false) (fun g2 => ?_)
    refine sW 2 g2 52 (pcs 0 0 false) (pcs (qX (liftP (genX nm x.val))) (qY (liftP (genX nm x.val))) (qI (liftP (genX nm x.val)))) (wS 0 52 (pcs (qX (liftP (genX nm x.val))) (qY (liftP (genX nm x.val))) (qI (liftP (genX nm x.val)))) rfl) <| sP (.bool b1) ?_
    refine sG ?_
    refine Sy.seq ?_
    refine Sy.regionR (by rintro ⟨_, _, h⟩; exact h) kR ⟨_, rfl⟩ ?_
    refine sP (.bool b1) ?_
    refine sG ?_
    cases b1
    · refine sU ?_
      refine Sy.skip ?_
      refine Sy.in_ ?_
      exact Sy.bpN [true, false, false] (M := [(g0, 52, (pcs 0 0 false))]) kR (bcons rfl rfl) (all_snoc hH hb1)
    · refine sT ?_
      refine Sy.seq ?_
      refine Sy.regionR (by rintro ⟨_, _, h⟩; exact h) kR ⟨_, rfl⟩ ?_
      refine sS (pv (qX (liftP (genX nm x.val))) (qY (liftP (genX nm x.val))) (qI (liftP (genX nm x.val)))) (qL 2 g2 0 9 52 52 (pcs (qX (liftP (genX nm x.val))) (qY (liftP (genX nm x.val))) (qI (liftP (genX nm x.val)))) rfl Tryz.underlying52) <| sW 0 g0 52 (pcs 0 0 false) (pcs (qX (liftP (genX nm x.val))) (qY (liftP (genX nm x.val))) (qI (liftP (genX nm x.val)))) (wS 0 52 (pcs (qX (liftP (genX nm x.val))) (qY (liftP (genX nm x.val))) (qI (liftP (genX nm x.val)))) rfl) ?_
      refine sG ?_
      refine Sy.ret ?_
      refine Sy.in_ret ?_
      exact Sy.bpR [true, false, false] (M := [(g0, 52, (pcs (qX (liftP (genX nm x.val))) (qY (liftP (genX nm x.val))) (qI (liftP (genX nm x.val)))))]) kR (bcons (beq (by rw [lastP_snoc])) rfl) (⟨pre, x, rfl, hH, hb1.symm⟩)
  · intro D fz xs hS_ hH hD hm
    have hgn := gen_none (before_k hS_ hH)
    refine Sy.in_ ?_
    refine sB ?_
    refine sS (pv (qX bP) (qY bP) (qI bP)) (qF 67 #[] (fun w => by rw [← ptv_q]; exact base_c w)) <| sW 0 g0 52 (pcs 0 0 false) (pcs (qX bP) (qY bP) (qI bP)) (wS 0 52 (pcs (qX bP) (qY bP) (qI bP)) rfl) ?_
    refine sG ?_
    refine Sy.ret ?_
    rw [show (ptv (genP nm) : Value) = pv (qX bP) (qY bP) (qI bP) from by rw [← ptv_q, hgn]]
    exact Sy.retM1 (v := pv (qX bP) (qY bP) (qI bP)) rfl (.inl (Res.cell (ty' := 52) g0 0 (pcs (qX bP) (qY bP) (qI bP)) _ kR kR Tryz.underlying52 rfl kR kR)) hD hm
  · intro D fz pre hS_ hx hD hm
    have hgs := gen_stop hS_ hx
    refine Sy.in_ret ?_
    refine Sy.then_ret ?_
    rw [show (ptv (genP nm) : Value) = pv (qX (lastP nm pre)) (qY (lastP nm pre)) (qI (lastP nm pre)) from by rw [← ptv_q, hgs]]
    exact Sy.retM1 (v := pv (qX (lastP nm pre)) (qY (lastP nm pre)) (qI (lastP nm pre))) rfl (.inl (Res.cell (ty' := 52) g0 0 (pcs (qX (lastP nm pre)) (qY (lastP nm pre)) (qI (lastP nm pre))) _ kR kR Tryz.underlying52 rfl kR kR)) hD hm
theorem gen_any (w : World) (nm : List UInt8) (hnm : nm.length = 32) (ht : Sh.TabAt w 1) : Calls Tryz.prog 63 #[.agg (nm.map bv).toArray] w (Gets w (ptv (genP nm))) := by
  refine Sy.enter (args := [.agg (nm.map bv).toArray]) Tryz.func63 rfl kL ?_
  refine sC ?_
  refine sM 47 (nm.map bv).toArray (fun g0 => ?_)
  refine sM 52 (pcs 0 0 false) (fun g1 => ?_)
  refine sA ?_
  refine sS (.agg (nm.map bv).toArray) (Quiet.load 0 g0 0 32 47 47 (nm.map bv).toArray _ _ rfl kR kR Tryz.underlying47 rfl kR _ (key_whole nm hnm) (key_size nm hnm)) ?_
  refine Sy.callN kR 116 #[.agg (nm.map bv).toArray] kF (fun vq Mq => ∃ g1, vq = .func (.func 159) #[] #[.pointer (some ⟨g1, 0, none⟩)] ∧ Mq = [(g1, 47, (nm.map bv).toArray)]) (fun w _ => cands_any w nm) (fun vq Mq hR0 => ?_)
  obtain ⟨u1, rfl, rfl⟩ := hR0
  refine sS (pv (qX (genP nm)) (qY (genP nm)) (qI (genP nm))) (qG 115 #[.func (.func 159) #[] #[.pointer (some ⟨u1, 0, none⟩)]] (fun w hw => by rw [← ptv_q]; exact first_any w u1 nm hnm (hw.get (i := 2) rfl) (ht.below hw.below ht.lt))) <| sW 1 g1 52 (pcs 0 0 false) (pcs (qX (genP nm)) (qY (genP nm)) (qI (genP nm))) (wS 0 52 (pcs (qX (genP nm)) (qY (genP nm)) (qI (genP nm))) rfl) ?_
  refine sG ?_
  refine Sy.ret ?_
  rw [show (ptv (genP nm) : Value) = pv (qX (genP nm)) (qY (genP nm)) (qI (genP nm)) from ptv_q _]
  exact rC (v := pv (qX (genP nm)) (qY (genP nm)) (qI (genP nm))) 52 g1 1 (pcs (qX (genP nm)) (qY (genP nm)) (qI (genP nm))) rfl Tryz.underlying52
end Go.Proofs.YtbofhoonlmikcaaGreatDoor.Cu

end
section
namespace Go.Proofs.YtbofhoonlmikcaaGreatDoor.Cu
open Go.RowKit Go.Proofs.YtbofhoonlmikcaaGreatDoor Go.Proofs.YtbofhoonlmikcaaGreatDoor.Sy

end Go.Proofs.YtbofhoonlmikcaaGreatDoor.Cu

end
section
namespace Go.Proofs.YtbofhoonlmikcaaGreatDoor.Sc
open Go.RowKit Go.Lib Go.Proofs.YtbofhoonlmikcaaGreatDoor

def lackW : Nat → Nat
  | 0 => 4624529908474429119
  | 1 => 4994812053365940164
  | 2 => 1
  | _ => 0
theorem lackW_lt : ∀ t, lackW t < 18446744073709551616
  | 0 => by decide
  | 1 => by decide
  | 2 => by decide
  | _ + 3 => by show 0 < _; decide
theorem mod_row : Fz.modc pM lackW = #[.int .u64 13822214165235122497, .int .u64 13451932020343611451, .int .u64 18446744073709551614, .int .u64 18446744073709551615, .int .u64 4624529908474429119, .int .u64 4994812053365940164, .int .u64 1] := by kernel_rfl
theorem lack_sum : pM + Fz.vR lackW 3 = 18446744073709551616 ^ 4 := by decide +kernel
theorem pM_pos0 : 0 < pM := by decide +kernel
theorem fold_any (w : World) (d0 d1 d2 d3 d4 d5 d6 d7 : Nat) (hd : d0 < 18446744073709551616 ∧ d1 < 18446744073709551616 ∧ d2 < 18446744073709551616 ∧ d3 < 18446744073709551616 ∧ d4 < 18446744073709551616 ∧ d5 < 18446744073709551616 ∧ d6 < 18446744073709551616 ∧ d7 < 18446744073709551616) : Calls Tryz.prog 124 #[.agg #[.int .u64 13822214165235122497, .int .u64 13451932020343611451, .int .u64 18446744073709551614, .int .u64 18446744073709551615, .int .u64 4624529908474429119, .int .u64 4994812053365940164, .int .u64 1], .agg #[.int .u64 (d0 : Int), .int .u64 (d1 : Int), .int .u64 (d2 : Int), .int .u64 (d3 : Int), .int .u64 (d4 : Int), .int .u64 (d5 : Int), .int .u64 (d6 : Int), .int .u64 (d7 : Int)]] w fun e w' => e = .returned (fv (val8 d0 d1 d2 d3 d4 d5 d6 d7 % pM)) ∧ Below w.heap.size w w' := by
  have h := Fz.foldZ w pM lackW lackW_lt pM_pos0 lack_sum (fun w x hx => by rw [mod_row]; exact normR_any w x hx) (r8 d0 d1 d2 d3 d4 d5 d6 d7) (fun t => by
    obtain ⟨h0, h1, h2, h3, h4, h5, h6, h7⟩ := hd
    rcases t with _ | _ | _ | _ | _ | _ | _ | _ | t <;> first | assumption | exact Nat.zero_lt_succ _)
  rw [r8_val, mod_row] at h
  exact h
end Go.Proofs.YtbofhoonlmikcaaGreatDoor.Sc

end
