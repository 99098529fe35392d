/-
  Texts of ours, put together: EcW, CrvR, SymF, SymG, CrvS, CrvT, CrvU, ScRefN, CrvV, CrvW, CrvX, PLiftL, PLift3, CurveAlive, CrvF, CrvG, CrvH, CurveBackL, SymT, Lift3, PLift5, PLift6, SymM, EqB, ScBase, ScOps.
-/
import Derived.Test.YtfhcpdbahbbmaaaGreatDoorBM4
set_option linter.unusedVariables false
set_option linter.unusedSimpArgs false
namespace Go.Proofs.YtfhcpdbahbbmaaaGreatDoor
section
namespace Ec
variable {n : Nat} [NeZero n] {inv : Fin n → Fin n} {α : Type}
def sumF (inv : Fin n → Fin n) (f : α → Pt n) (s : Pt n) : List α → Pt n
 | [] => s
 | x :: l => sumF inv f (add inv s (f x)) l
def sumL (inv : Fin n → Fin n) (f : α → Pt n) (l : List α) : Pt n:=sumF inv f none l
theorem On.sumF (H : Fld n inv) {f : α → Pt n} : ∀ (l : List α) {s : Pt n},On s → (∀ x ∈ l,On (f x)) → On (Ec.sumF inv f s l)
 | [],_,hs,_ => hs
 | x :: l,_,hs,hf => On.sumF H l (On.add H hs (hf x (List.mem_cons_self ..))) fun y hy => hf y (List.mem_cons_of_mem _ hy)
theorem sumF_start (H : Fld n inv) {f : α → Pt n} : ∀ (l : List α) {s t : Pt n},On s → On t → (∀ x ∈ l,On (f x)) → sumF inv f (add inv s t) l = add inv s (sumF inv f t l)
 | [],_,_,_,_,_ => rfl
 | x :: l,s,t,hs,ht,hf => by
  have hx:=hf x (List.mem_cons_self ..)
  show sumF inv f (add inv (add inv s t) (f x)) l = add inv s (sumF inv f (add inv t (f x)) l)
  rw [assoc H hs ht hx]
  exact sumF_start H l hs (On.add H ht hx) fun y hy => hf y (List.mem_cons_of_mem _ hy)
theorem sumF_is (H : Fld n inv) {f : α → Pt n} (l : List α) {s : Pt n} (hs : On s) (hf : ∀ x ∈ l,On (f x)) : sumF inv f s l = add inv s (sumL inv f l):=by
 have:=sumF_start H l hs (show On none from trivial) hf
 rwa [add_zero] at this
theorem On.sumL (H : Fld n inv) {f : α → Pt n} (l : List α) (hf : ∀ x ∈ l,On (f x)) : On (Ec.sumL inv f l):=On.sumF H l trivial hf
theorem sumL_cons (H : Fld n inv) {f : α → Pt n} (x : α) (l : List α) (hf : ∀ y ∈ x :: l,On (f y)) : sumL inv f (x :: l) = add inv (f x) (sumL inv f l):=by
 show sumF inv f (add inv none (f x)) l = _
 rw [zero_add]
 exact sumF_is H l (hf x (List.mem_cons_self ..)) fun y hy => hf y (List.mem_cons_of_mem _ hy)
theorem sumL_append (H : Fld n inv) {f : α → Pt n} : ∀ (l m : List α),(∀ x ∈ l ++ m,On (f x)) → sumL inv f (l ++ m) = add inv (sumL inv f l) (sumL inv f m)
 | [],m,_ => (zero_add _).symm
 | x :: l,m,h => by
  have h1 : ∀ y ∈ l ++ m,On (f y):=fun y hy => h y (List.mem_cons_of_mem _ hy)
  have h2 : ∀ y ∈ x :: l,On (f y):=fun y hy => h y (by rcases List.mem_cons.1 hy with rfl | hy; exact List.mem_cons_self ..; exact List.mem_cons_of_mem _ (List.mem_append_left _ hy))
  rw [List.cons_append,sumL_cons H x (l ++ m) (fun y hy => h y (by rw [List.cons_append]; exact hy)),sumL_append H l m h1,sumL_cons H x l h2,
   assoc H (h x (List.mem_cons_self ..)) (On.sumL H l fun y hy => h1 y (List.mem_append_left _ hy)) (On.sumL H m fun y hy => h1 y (List.mem_append_right _ hy))]
theorem sumL_add (H : Fld n inv) {f g : α → Pt n} : ∀ (l : List α),(∀ x ∈ l,On (f x)) → (∀ x ∈ l,On (g x)) → sumL inv (fun x => add inv (f x) (g x)) l = add inv (sumL inv f l) (sumL inv g l)
 | [],_,_ => rfl
 | x :: l,hf,hg => by
  have f1:=hf x (List.mem_cons_self ..)
  have g1:=hg x (List.mem_cons_self ..)
  have hf' : ∀ y ∈ l,On (f y):=fun y hy => hf y (List.mem_cons_of_mem _ hy)
  have hg' : ∀ y ∈ l,On (g y):=fun y hy => hg y (List.mem_cons_of_mem _ hy)
  rw [sumL_cons H x l (fun y hy => On.add H (hf y hy) (hg y hy)),sumL_cons H x l hf,sumL_cons H x l hg,sumL_add H l hf' hg']
  exact add4 H f1 g1 (On.sumL H l hf') (On.sumL H l hg')
theorem sumL_nm (H : Fld n inv) {f : α → Pt n} (k : Nat) : ∀ (l : List α),(∀ x ∈ l,On (f x)) → sumL inv (fun x => nm inv k (f x)) l = nm inv k (sumL inv f l)
 | [],_ => (nm_none k).symm
 | x :: l,hf => by
  have f1:=hf x (List.mem_cons_self ..)
  have hf' : ∀ y ∈ l,On (f y):=fun y hy => hf y (List.mem_cons_of_mem _ hy)
  rw [sumL_cons H x l (fun y hy => On.nm H (hf y hy) k),sumL_cons H x l hf,sumL_nm H k l hf',nm_sum H f1 (On.sumL H l hf')]
theorem sumL_congr (H : Fld n inv) {f g : α → Pt n} : ∀ (l : List α),(∀ x ∈ l,On (f x)) → (∀ x ∈ l,f x = g x) → sumL inv f l = sumL inv g l
 | [],_,_ => rfl
 | x :: l,hf,he => by
  have hg : ∀ y ∈ x :: l,On (g y):=fun y hy => he y hy ▸ hf y hy
  rw [sumL_cons H x l hf,sumL_cons H x l hg,he x (List.mem_cons_self ..),sumL_congr H l (fun y hy => hf y (List.mem_cons_of_mem _ hy)) fun y hy => he y (List.mem_cons_of_mem _ hy)]
theorem horner (H : Fld n inv) {p : α → Pt n} (k : α → Nat) (q : Nat) (l : List α) (hp : ∀ x ∈ l,On (p x)) :
  add inv (nm inv 16 (sumL inv (fun x => nm inv (k x / (16 * q)) (p x)) l)) (sumL inv (fun x => nm inv (k x / q % 16) (p x)) l) = sumL inv (fun x => nm inv (k x / q) (p x)) l:=by
 rw [← sumL_nm H 16 l fun x hx => On.nm H (hp x hx) _, ← sumL_add H l (fun x hx => On.nm H (On.nm H (hp x hx) _) _) fun x hx => On.nm H (hp x hx) _]
 refine sumL_congr H l (fun x hx => On.add H (On.nm H (On.nm H (hp x hx) _) _) (On.nm H (hp x hx) _)) fun x hx => ?_
 rw [← nm_mul H (hp x hx), ← nm_add H (hp x hx)]
 congr 1
 rw [Nat.mul_comm 16 q, ← Nat.div_div_eq_div_mul]
 omega
theorem nm_two (P : Pt n) : nm inv 2 P = add inv P P:=by
 show add inv (nm inv 1 P) P = _
 rw [nm_one]
theorem bit_step (H : Fld n inv) {P : Pt n} (hP : On P) (k q : Nat) : add inv (add inv (nm inv (k / (2 * q)) P) (nm inv (k / (2 * q)) P)) (nm inv (k / q % 2) P) = nm inv (k / q) P:=by
 rw [← nm_two, ← nm_mul H hP, ← nm_add H hP]
 congr 1
 rw [Nat.mul_comm 2 q, ← Nat.div_div_eq_div_mul]
 omega
end Ec
end
section
namespace Cu
open Go.RowKit Sy
theorem sumF_snoc {α : Type} (f : α → Pt) : ∀ (l : List α) (s : Pt) (x : α),Ec.sumF finv f s (l ++ [x]) = Ec.add finv (Ec.sumF finv f s l) (f x)
 | [],_,_ => rfl
 | y :: l,s,x => sumF_snoc f l (Ec.add finv s (f y)) x
theorem sumL_none {α : Type} (f : α → Pt) : ∀ (l : List α),(∀ x ∈ l,f x = none) → Ec.sumL finv f l = none
 | [],_ => rfl
 | x :: l,h => by
  show Ec.sumF finv f (Ec.add finv none (f x)) l = none
  rw [h x (List.mem_cons_self ..),Ec.add_zero]
  exact sumL_none f l fun y hy => h y (List.mem_cons_of_mem _ hy)
theorem sumL_map {α β : Type} (f : β → Pt) (g : α → β) (l : List α) : Ec.sumL finv f (l.map g) = Ec.sumL finv (fun x => f (g x)) l:=by
 have h : ∀ (l : List α) (s : Pt),Ec.sumF finv f s (l.map g) = Ec.sumF finv (fun x => f (g x)) s l:=by
  intro l
  induction l with
  | nil => intro _; rfl
  | cons x l ih => intro s; exact ih _
 exact h l none
theorem dbN_rep {a : J} {P : Pt} (hP : Ec.On P) (h : Ec.Rep a P) : ∀ j,Ec.Rep (dbN a j) (Ec.nm finv (2 ^ j) P)
 | 0 => by rw [Nat.pow_zero,Ec.nm_one]; exact h
 | j + 1 => by
  rw [show 2 ^ (j + 1) = 2 ^ j + 2 ^ j by omega,Ec.nm_add fld hP]
  exact dblJ_rep (hP.nm fld _) (dbN_rep hP h j)
theorem Trm.on (t : Trm) : Ec.On t.pt:=dec_on t.x t.y t.i
theorem inJ_rep (T : Nat → Trm) (i : Nat) {a : J} {s : Pt} (hs : Ec.On s) (h : Ec.Rep a s) : ∀ j,Ec.Rep (inJ T i a j) (Ec.sumF finv (fun t => Ec.nm finv (dg (T t).kn i) (T t).pt) s (List.range j))
 | 0 => h
 | j + 1 => by
  rw [List.range_succ,sumF_snoc]
  exact addJ_rep (Ec.On.sumF fld _ hs fun x _ => (T x).on.nm fld _) ((T j).on.nm fld _) (inJ_rep T i hs h j) (fewL_rep (T j).on (threeJ_rep _) _)
theorem kn_lt (t : Trm) : t.kn < 16 ^ 64:=Nat.lt_trans (Nat.mod_lt _ (by decide)) (by decide)
theorem muJ_rep (T : Nat → Trm) (n : Nat) : ∀ i,i ≤ 64 → Ec.Rep (muJ T n i) (Ec.sumL finv (fun t => Ec.nm finv ((T t).kn / 16 ^ (64 - i)) (T t).pt) (List.range n))
 | 0,_ => by
  rw [sumL_none _ _ fun x _ => by rw [Nat.sub_zero,Nat.div_eq_of_lt (kn_lt (T x))]; rfl]
  rfl
 | i + 1,hi => by
  have hS : Ec.On (Ec.sumL finv (fun t => Ec.nm finv ((T t).kn / 16 ^ (64 - i)) (T t).pt) (List.range n)):=Ec.On.sumL fld _ fun x _ => (T x).on.nm fld _
  have h1:=dbN_rep hS (muJ_rep T n i (by omega)) 4
  have h2:=inJ_rep T i (hS.nm fld _) h1 n
  rw [Ec.sumF_is fld _ (hS.nm fld _) fun x _ => (T x).on.nm fld _] at h2
  have e1 : 16 ^ (64 - i) = 16 * 16 ^ (63 - i):=by rw [show 64 - i = (63 - i) + 1 by omega,Nat.pow_succ,Nat.mul_comm]
  have h3:=Ec.horner fld (p:=fun t => (T t).pt) (fun t => (T t).kn) (16 ^ (63 - i)) (List.range n) fun x _ => (T x).on
  rw [show 64 - (i + 1) = 63 - i by omega, ← h3, ← e1]
  exact h2
theorem multi_rep (T : Nat → Trm) (n : Nat) : Ec.Rep (muJ T n 64) (Ec.sumL finv (fun t => Ec.nm finv (T t).kn (T t).pt) (List.range n)):=by
 have h:=muJ_rep T n 64 (Nat.le_refl _)
 simpa using h
def szC (n c : Nat) : Nat:=min 32 (n - c * 32)
def chJ (T : Nat → Trm) (n : Nat) (s : J) (c : Nat) : J:=addJ s (muJ (fun j => T (c * 32 + j)) (szC n c) 64)
def chL (T : Nat → Trm) (n : Nat) (l : List Nat) : J:=l.foldl (chJ T n) ⟨0,0,0⟩
theorem chL_snoc (T : Nat → Trm) (n : Nat) (l : List Nat) (c : Nat) : chL T n (l ++ [c]) = chJ T n (chL T n l) c:=by simp [chL,List.foldl_append]
theorem chL_rep (T : Nat → Trm) (n : Nat) : ∀ c,Ec.Rep (chL T n (List.range c)) (Ec.sumL finv (fun t => Ec.nm finv (T t).kn (T t).pt) (List.range (min n (c * 32))))
 | 0 => by rw [Nat.zero_mul,Nat.min_zero]; rfl
 | c + 1 => by
  have hon : ∀ l,Ec.On (Ec.sumL finv (fun t => Ec.nm finv (T t).kn (T t).pt) l):=fun l => Ec.On.sumL fld _ fun x _ => (T x).on.nm fld _
  have h1:=chL_rep T n c
  have h2:=multi_rep (fun j => T (c * 32 + j)) (szC n c)
  have h3:=addJ_rep (hon _) (Ec.On.sumL fld _ fun x _ => (T (c * 32 + x)).on.nm fld _) h1 h2
  rw [List.range_succ,chL_snoc]
  show Ec.Rep (addJ _ _) _
  have e : min n ((c + 1) * 32) = min n (c * 32) + szC n c:=by unfold szC; omega
  rcases Nat.lt_or_ge (c * 32) n with hlt | hge
  ·rw [e,List.range_add,Ec.sumL_append fld _ _ fun x _ => (T x).on.nm fld _,sumL_map]
   rw [show min n (c * 32) = c * 32 by omega] at h3 ⊢
   exact h3
  ·have ez : szC n c = 0:=by unfold szC; omega
   rw [e,ez,Nat.add_zero]
   rw [ez] at h3
   have e0 : ∀ f : Nat → Pt,Ec.sumL finv f (List.range 0) = none:=fun _ => rfl
   rw [e0,Ec.add_zero] at h3
   exact h3
theorem chL_all (T : Nat → Trm) (n : Nat) : Ec.Rep (chL T n (List.range ((n + 31) / 32))) (Ec.sumL finv (fun t => Ec.nm finv (T t).kn (T t).pt) (List.range n)):=by
 have h:=chL_rep T n ((n + 31) / 32)
 rwa [show min n ((n + 31) / 32 * 32) = n by omega] at h
end Cu
end
section
namespace Sy
open Go.RowKit
abbrev mark (D : Nat) : Deferred:={ target:=.collected D,args:=#[] }
theorem St.refix {w0 : Base} {w : World} {L : Blocks} (h : St w0 w L) (ds : List Deferred) (fe : Fence) (ro : Nat) : St ⟨w0.world,w,ds,fe,ro⟩ w L:=⟨h.below,h.blk,h.apart,Nat.le_refl _,fun _ _ _ h _ => h⟩
theorem St.back {w0 : Base} {W w : World} {L L' : Blocks} (h0 : St w0 W L) {ds : List Deferred} {fe : Fence} {ro : Nat} (h : St ⟨w0.world,W,ds,fe,ro⟩ w L') (ds' : List Deferred) (fe' : Fence) (ro' : Nat) : St ⟨w0.world,w0.fz,ds',fe',ro'⟩ w L' :=
 ⟨h.below,h.blk,h.apart,Nat.le_trans h0.size h.size,fun k o hk ho hc => h.non k o hk (h0.non k o hk ho hc) hc⟩
theorem St.keeps {w0 : Base} {W w : World} {L L' : Blocks} (h0 : St w0 W L) {ds : List Deferred} {fe : Fence} {ro : Nat} (h : St ⟨w0.world,W,ds,fe,ro⟩ w L') {B : Nat} (hB : w0.world.heap.size ≤ B) : KeepsFrom B W w:=⟨h.size,fun k o hk ho hc => h.non k o (Nat.le_trans hB hk) ho hc⟩
theorem St.between {w0 : Base} {W w : World} {L L' : Blocks} (h0 : St w0 W L) {ds : List Deferred} {fe : Fence} {ro : Nat} (h : St ⟨w0.world,W,ds,fe,ro⟩ w L') : Below w0.world.heap.size W w :=
 ⟨h.below.os.trans h0.below.os.symm,h.below.tape.trans h0.below.tape.symm,h.below.output.trans h0.below.output.symm,h.size,fun k hk => (h.below.block k hk).trans (h0.below.block k hk).symm⟩
theorem St.own {w0 : Base} {X Y : World} {L : Blocks} {B : Nat} {row : Option Nat} (h : St w0 X L) (hB : w0.fz.heap.size ≤ B) (hB2 : w0.world.heap.size ≤ B) (hg : X.grownBy Y row) (hr : ∀ r,row = some r → B ≤ r ∧ ∃ o : Obj,X.heap[r]? = some o ∧ o.isCells = false) : St w0 Y L:=by
 refine ⟨?_,fun g t cs hm => ⟨(h.blk g t cs hm).1,(h.blk g t cs hm).2.grown hg (fun e => ?_)⟩,h.apart,Nat.le_trans h.size hg.size,fun k o hk ho hc => ?_⟩
 ·refine h.below.trans ⟨hg.os,hg.tape,hg.output,hg.size,fun k hk => hg.block k (Nat.lt_of_lt_of_le hk h.below.size) (fun e => ?_)⟩
  have:=(hr k e.symm).1
  omega
 ·obtain ⟨o,ho,hc⟩:=(hr g e.symm).2
  have hb:=(h.blk g t cs hm).2
  unfold Blk at hb
  rw [hb] at ho
  cases ho
  cases hc
 ·have h1:=h.non k o hk ho hc
  have hlt:=(Array.getElem?_eq_some_iff.1 ho).1
  exact (hg.block k (Array.getElem?_eq_some_iff.1 h1).1 (fun e => by have:=(hr k e.symm).1; omega)).trans h1
def KpL (n₀ : Nat) (l : Blocks) (W W' : World) : Prop:=Below n₀ W W' ∧ ∀ p ∈ l,Blk W p.1 p.2.1 p.2.2 → Blk W' p.1 p.2.1 p.2.2
theorem KpL.trans {n₀ : Nat} {l : Blocks} {A B C : World} (h : KpL n₀ l A B) (k : KpL n₀ l B C) : KpL n₀ l A C:=⟨h.1.trans k.1,fun p hp hc => k.2 p hp (h.2 p hp hc)⟩
theorem KpL.put {n₀ : Nat} {l : Blocks} {W : World} {k : Nat} {o o' : Obj} (hk : n₀ ≤ k) (ho : W.heap[k]? = some o) (hc : o.isCells = false) : KpL n₀ l W (W.putObj k o'):=by
 have hg:=grownBy_putObj' W k o'
 refine ⟨⟨hg.os,hg.tape,hg.output,hg.size,fun j hj => World.putObj_heap_other (by omega)⟩,fun p _ hp => ?_⟩
 have hne : p.1 ≠ k:=by
  rintro rfl
  unfold Blk at hp
  rw [hp] at ho
  cases ho
  cases hc
 exact (World.putObj_heap_other hne).trans hp
def roundF (F : Slots) (ps : Array Tmp) (vs : Array Value) : Slots:=(ps.toList.zip vs.toList).foldl (fun F x => (x.1,x.2) :: F) F
theorem Fr.round {ds : List Deferred} {n : Nat} : ∀ (l : List (Tmp × Value)) {T : Array Value} {F : Slots},(∀ x ∈ l,x.1 < n) → Fr ds { tmps:=T,defers:=ds } n F → Fr ds { tmps:=l.foldl (fun t x => t.setIfInBounds x.1 x.2) T,defers:=ds } n (l.foldl (fun F x => (x.1,x.2) :: F) F)
 | [],_,_,_,h => h
 | x :: l,T,F,hl,h => by
  have h2:=h.put (d:=some x.1) (decide_eq_true (hl x (List.mem_cons_self ..))) x.2
  exact Fr.round l (fun y hy => hl y (List.mem_cons_of_mem _ hy)) h2
section
variable {P : Program} {w0 fz0 : World} {n : Nat} {Q : Exit → Act → World → Prop} {F : Slots} {L : Blocks}
abbrev rb (w0 fz : World) (l : Nat) : Base:=⟨w0,fz,[],Fence.wide.inRound l,7⟩
abbrev ab (w0 fz : World) (D : Nat) : Base:=⟨w0,fz,[mark D],Fence.wide,9⟩
def BP {α : Type} (w0 fz : World) (l : Nat) (HI : List α → Prop) (LL XR : List α → Blocks) (HX : List α → Prop) (pre : List α) : Exit → Act → World → Prop
 | .normal,_,w => HI pre ∧ St (rb w0 fz l) w (LL pre)
 | .ret,_,w => HX pre ∧ St (rb w0 fz l) w (XR pre)
 | _,_,_ => False
def AP (w0 fz : World) (l n na : Nat) (FA : List Nat → Slots) (LP : Blocks) (LA : List Nat → Blocks) : Exit → Act → World → Prop
 | .normal,a,w => ∃ gs,gs.length = na ∧ Fr [] a n (FA gs) ∧ St (rb w0 fz l) w (LP ++ LA gs)
 | _,_,_ => False
theorem rangeF {α : Type} {g : Operand} {ps : Array Tmp} {assign body : Code} (gf : Nat) (lb : Array Value) (hgi : inF F g = true) (hg : evF F g = .func (.func gf) #[] lb) (eg : ∀ args w,(callFunc gf args).run P w = .ok (.enter gf args) w)
  (encs : α → Array Value) (kl : Blocks) (S Sp : List α → Prop) (N : Nat) (hps : ∀ x,(encs x).size = ps.size) (hpn : ∀ p ∈ ps.toList,p < n)
  (G : List Nat) (HI : List α → Prop) (hI0 : HI []) (LL XR : List α → Blocks) (HX : List α → Prop) (m : List Bool) (h0 : sel L m = LL []) (hG : ∀ pre,(LL pre).map (·.1) = G)
  (hseq : ∀ w,St ⟨w0,fz0,[],Fence.wide,9⟩ w L → ∃ wk,Below wk.heap.size wk w ∧ SeqStopsK Fence.wide 8 P gf lb encs (KpL w0.heap.size kl) S Sp N wk)
  (hkl : ∀ p ∈ kl, ∀ pre,p ∈ LL pre)
  (na : Nat) (FA : α → List Nat → Slots) (LA : α → List Nat → Blocks) (hLA : ∀ x gs,gs.length = na → (LA x gs).map (·.1) = gs)
  (hassign : ∀ l fz pre x,wpC P (rb w0 fz l) n (AP w0 fz l n na (FA x) (LL pre) (LA x)) (roundF F ps (encs x)) (LL pre) assign)
  (hbody : ∀ l fz pre x gs,gs.length = na → pre.length < N → HI pre → wpC P (rb w0 fz l) n (BP w0 fz l HI LL XR HX (pre ++ [x])) (FA x gs) (LL pre ++ LA x gs) body)
  (hdone : ∀ D fz xs,S xs → HI xs → w0.heap.size ≤ D → fz.heap[D]? = some (.deferred (some [])) → X (ab w0 fz D) n Q F (LL xs) .normal)
  (hstop : ∀ D fz pre,Sp pre → HX pre → w0.heap.size ≤ D → fz.heap[D]? = some (.deferred (some [])) → X (ab w0 fz D) n Q F (XR pre) .ret) :
  wpC P ⟨w0,fz0,[],Fence.wide,9⟩ n Q F L (.rangeFunc g ps assign body):=by
 intro a w ha hw
 obtain ⟨wk,hbk,hsq⟩:=hseq w hw
 have hsz : fz0.heap.size ≤ w.heap.size:=hw.size
 have hsz0 : w0.heap.size ≤ w.heap.size:=hw.below.size
 have hz : St ⟨w0,fz0,[],Fence.wide,9⟩ w (LL []):=h0 ▸ hw.less (sel_sub L m)
 have had : a.defers = []:=ha.1
 -- what a round hands on pays the iterator
 have hK : ∀ {W W' : World} {L1 : Blocks} {pre pre' : List α} {l : Nat},St ⟨w0,fz0,[],Fence.wide,9⟩ W (LL pre) → St (rb w0 W l) W' L1 → (LL pre').Sublist L1 → KpL w0.heap.size kl W W':=fun {W W' L1 pre pre' l} h1 h2 hs =>
  ⟨h1.between h2,fun p hp _ => by
   exact (h2.blk _ _ _ (hs.subset (hkl p hp pre'))).2⟩
 refine wpIn_rangeFunc_ownH (F:=Fence.wide) (n:=9) rfl (by omega) (gf:=gf) (lb:=lb) ((ha.eval hgi).trans hg) trivial eg (encs:=encs) (Kp:=KpL w0.heap.size kl) (S:=S) (Sp:=Sp) (N:=N) (w0:=wk) hsq KpL.trans
  (fun W l o o' hl ho hc _ => KpL.put (by omega) ho hc) hbk hps
  (fun pre W => HI pre ∧ St ⟨w0,fz0,[],Fence.wide,9⟩ W (LL pre)) (fun c pre W => c = .ret ∧ HX pre ∧ St ⟨w0,fz0,[],Fence.wide,9⟩ W (XR pre))
  (fun pre X Y row hs hg hr => ⟨hs.1,St.own hs.2 hsz hsz0 hg hr⟩) (fun c pre X Y row hs hg hr => ⟨hs.1,hs.2.1,St.own hs.2.2 hsz hsz0 hg hr⟩) ⟨hI0,hz⟩
  (fun x a' W => ∃ gs,gs.length = na ∧ Fr [] a' n (FA x gs) ∧ (∀ e ∈ LA x gs,w0.heap.size ≤ e.1 ∧ Blk W e.1 e.2.1 e.2.2) ∧ (G ++ gs).Nodup)
  (fun x a' _ X Y row hs hg hr => ?_) ?_ ?_ ?_ ?_
 ·obtain ⟨gs,hl0,h1,h2,h3⟩:=hs
  refine ⟨gs,hl0,h1,fun e he => ⟨(h2 e he).1,(h2 e he).2.grown hg (fun q => ?_)⟩,h3⟩
  obtain ⟨o,ho,hc⟩:=(hr e.1 q.symm).2
  have hb:=(h2 e he).2
  unfold Blk at hb
  rw [hb] at ho
  cases ho
  cases hc
 ·-- the loop variables
  intro l pre x W K hI0' hk
  obtain ⟨hH,hI⟩:=hI0'
  have hfr : Fr [] { tmps:=(ps.zip (encs x)).foldl (fun t (p,v) => t.setIfInBounds p v) a.tmps,defers:=[] } n (roundF F ps (encs x)):=by
   have h1 : Fr [] { tmps:=a.tmps,defers:=[] } n F:=⟨rfl,ha.2.1,ha.2.2⟩
   have h2:=Fr.round (ps.toList.zip (encs x).toList) (fun y hy => hpn y.1 (List.of_mem_zip hy).1) h1
   have e : (ps.zip (encs x)).foldl (fun t (p,v) => t.setIfInBounds p v) a.tmps = (ps.toList.zip (encs x).toList).foldl (fun t x => t.setIfInBounds x.1 x.2) a.tmps:=by
    rw [← Array.foldl_toList,Array.toList_zip]
   rw [e]
   exact h2
  refine wpIn_mono (hassign l W pre x _ W hfr (hI.refix _ _ _)) fun e a' W' hq => ?_
  cases e with
  | normal =>
   obtain ⟨gs,hl0,h1,h2⟩:=hq
   have hsub : (LL pre).Sublist (LL pre ++ LA x gs):=List.sublist_append_left _ _
   refine hk a' W' (hI.keeps h2 hsz0) (hK hI h2 hsub) ⟨hH,(hI.back h2 _ _ _).less hsub⟩ ⟨gs,hl0,h1,fun e he => h2.blk e.1 e.2.1 e.2.2 (List.mem_append_right _ he),?_⟩
   have:=h2.apart
   rwa [List.map_append,hG,hLA _ _ hl0] at this
  | _ => exact hq.elim
 ·-- the body
  intro l pre x a' W hl _ hI0' ⟨gs,hl0,h1,h2,h3⟩ hlen
  obtain ⟨hH,hI⟩:=hI0'
  have hst : St (rb w0 W l) W (LL pre ++ LA x gs):=by
   refine ⟨hI.below,fun g t cs hm => ?_,?_,Nat.le_refl _,fun _ _ _ h _ => h⟩
   ·rcases List.mem_append.1 hm with hm | hm
    ·exact hI.blk g t cs hm
    ·exact h2 (g,t,cs) hm
   ·rw [List.map_append,hG,hLA _ _ hl0]
    exact h3
  refine wpIn_mono (hbody l W pre x gs hl0 hlen hH a' W h1 hst) fun e a3 W3 hq => ?_
  cases e with
  | normal => exact ⟨hI.keeps hq.2 hsz0,hK hI hq.2 (List.Sublist.refl _),hq.1,hI.back hq.2 _ _ _⟩
  | ret => exact ⟨hI.keeps hq.2 hsz0,rfl,hq.1,hI.back hq.2 _ _ _⟩
  | _ => exact hq.elim
 ·intro D xs W hD hS hI hd
  exact hdone D W xs hS hI.1 (Nat.le_trans hsz0 hD) hd _ W ⟨by simp [had],ha.2.1,ha.2.2⟩ (hI.2.refix _ _ _)
 ·rintro D c pre W hD hS ⟨rfl,hx,hI⟩ hd
  exact wpIn_ret (hstop D W pre hS hx (Nat.le_trans hsz0 hD) hd _ W ⟨by simp [had],ha.2.1,ha.2.2⟩ (hI.refix _ _ _))
theorem bpN {α : Type} {l : Nat} {HI : List α → Prop} {LL XR : List α → Blocks} {HX : List α → Prop} {pre : List α} (m : List Bool) {M : Blocks} (hL : sel L m = M) (hM : M = LL pre) (hi : HI pre) : X (rb w0 fz0 l) n (BP w0 fz0 l HI LL XR HX pre) F L .normal:=fun _ _ _ hw => by
 subst hL
 refine ⟨hi,?_⟩
 rw [← hM]
 exact hw.less (sel_sub L m)
theorem apN {l na : Nat} {FA : List Nat → Slots} {LP : Blocks} {LA : List Nat → Blocks} (gs : List Nat) (hg : gs.length = na) (hF : ∀ p ∈ FA gs,F.lookup p.1 = some p.2) (m : List Bool) (hL : sel L m = LP ++ LA gs) : X (rb w0 fz0 l) n (AP w0 fz0 l n na FA LP LA) F L .normal:=fun _ _ ha hw => ⟨gs,hg,ha.all hF,hL ▸ hw.less (sel_sub L m)⟩
def GetsN (w : World) (R : Value → Blocks → Prop) (e : Ending) (w' : World) : Prop:=∃ v M,e = .returned v ∧ R v M ∧ Below w.heap.size w w' ∧ (∀ g t cs,(g,t,cs) ∈ M → w.heap.size ≤ g ∧ Blk w' g t cs) ∧ (M.map (·.1)).Nodup
theorem St.addN {w0 : Base} {w w' : World} {L M : Blocks} (h : St w0 w L) (hg : Gr w w') (hM : ∀ g t cs,(g,t,cs) ∈ M → w.heap.size ≤ g ∧ Blk w' g t cs) (hn : (M.map (·.1)).Nodup) : St w0 w' (L ++ M):=by
 have h':=h.gr hg
 refine ⟨h'.below,fun g t cs hm => ?_,?_,h'.size,h'.non⟩
 ·rcases List.mem_append.1 hm with hm | hm
  ·exact h'.blk g t cs hm
  ·exact ⟨Nat.le_trans h.below.size (hM g t cs hm).1,(hM g t cs hm).2⟩
 ·rw [List.map_append,List.nodup_append]
  refine ⟨h.apart,hn,fun x hx y hy e => ?_⟩
  obtain ⟨⟨g,t,cs⟩,hm,rfl⟩:=List.mem_map.1 hx
  obtain ⟨⟨g',t',cs'⟩,hm',rfl⟩:=List.mem_map.1 hy
  have h1:=(h.blk g t cs hm).2.lt
  have h2:=(hM g' t' cs' hm').1
  have e' : g = g':=e
  omega
theorem callN {w0 : Base} {ops : Array Oper} {o : Oper} {l : List Oper} (hg : good ops n F o = true) (f : FuncId) (args : Array Value) (he : ∀ w,(execOp (evF F) o).run P w = .ok (.enter f args) w) (R : Value → Blocks → Prop)
  (hc : ∀ w,St w0 w L → Calls P f args w (GetsN w R)) (h : ∀ v M,R v M → wpS P w0 n ops Q (putF F o.dst v) (L ++ M) l) : wpS P w0 n ops Q F L (o :: l):=fun a w ha hw => by
 obtain ⟨g1,_,g3,_⟩:=good_spec hg
 refine wpList_step fun K hK => ?_
 rw [if_pos (ha.wanted g1)]
 unfold Oper.wp
 rw [good_exec hg ha,he w]
 refine Calls.mono (hc w hw) fun e w' he' => ?_
 obtain ⟨v,M,rfl,hR,hb,hM,hn⟩:=he'
 exact hK _ _ (h v M hR _ _ (ha.put g3 v) (hw.addN hb hM hn))
theorem callND {w0 : Base} {ops : Array Oper} {ex : Nat → Bool} {fuel : Nat} {listed : Array Bool} (k : Nat) {oi : Oper} (hi0 : ops.toList[k]? = some oi) (hr : Region.ready .any ops listed = [k]) (hg : good ops n F oi = true) (f : FuncId) (args : Array Value)
  (he : ∀ w,(execOp (evF F) oi).run P w = .ok (.enter f args) w) (R : Value → Blocks → Prop) (hc : ∀ w,St w0 w L → Calls P f args w (GetsN w R)) (h : ∀ v M,R v M → wpD P w0 n ops Q ex (putF F oi.dst v) (L ++ M) fuel (listed.setIfInBounds k true)) : wpD P w0 n ops Q ex F L (fuel + 1) listed:=fun a w ha hw =>
 wpAnyG_sole k hi0 hr (ha.wanted (good_spec hg).1) fun w1 h1 K hK => by
  unfold Oper.wp
  rw [good_exec hg ha,he w1]
  refine Calls.mono (hc w1 (hw.gr h1)) fun e w' he' => ?_
  obtain ⟨v,M,rfl,hR,hb,hM,hn⟩:=he'
  exact hK _ _ (fun _ => hb) (h v M hR _ _ (ha.put (good_spec hg).2.2.1 v) ((hw.gr h1).addN hb hM hn))
theorem St.unmark {w0 fz : World} {D : Nat} {w : World} (h : St (ab w0 fz D) w L) (hD : w0.heap.size ≤ D) (hm : fz.heap[D]? = some (.deferred (some []))) :
  (Instr.takeDeferred D).run P w = .ok [] (w.putObj D (.deferred none)) ∧ St (Base.of w0) (w.putObj D (.deferred none)) L:=by
 have ho:=h.non D _ hD hm rfl
 have hg:=grownBy_putObj' w D (.deferred none)
 refine ⟨run_takeDeferred ho,?_⟩
 have h1 : St ⟨w0,w0,[],Fence.wide,9⟩ w L:=⟨h.below,h.blk,h.apart,h.below.size,fun k o hk hq _ => by have:=(Array.getElem?_eq_some_iff.1 hq).1; exact absurd this (by show ¬ k < w0.heap.size; have : w0.heap.size ≤ k:=hk; omega)⟩
 exact h1.own (B:=w0.heap.size) (Nat.le_refl _) (Nat.le_refl _) hg (fun r e => by cases e; exact ⟨hD,_,ho,rfl⟩)
theorem retM1 {w1 fz : World} {D : Nat} {fn : Func} {r : ResultVar} {v : Value} (hr : fn.results = #[r]) (h : Has P F L r v) (hD : w1.heap.size ≤ D) (hm : fz.heap[D]? = some (.deferred (some []))) : X (ab w1 fz D) n (bodyPostM Fence.wide 9 P fn (Gets w1 v)) F L .ret:=fun a w ha hw => by
 obtain ⟨e1,e2⟩:=St.unmark (P:=P) hw hD hm
 have hd : a.defers = [mark D]:=ha.1
 show LeavesInM Fence.wide 9 P fn a.tmps (Gets w1 v) a.defers .returning w
 rw [hd]
 refine ⟨by simp,.inl ⟨D,_,rfl,e1,?_⟩⟩
 refine ⟨v,?_,rfl,e2.below⟩
 rcases Res.run h ha e2 with ⟨t,rfl,f1⟩ | ⟨t,ty,ad,rfl,f1,f2⟩ <;> simp [results,Result.andThen, *]
end
end Sy
end
section
namespace Sy
open Go.RowKit
abbrev pb (W : World) (m : Nat) : Base:=⟨W,W,[],Fence.wide,m⟩
theorem St.here (W : World) (m : Nat) : St (pb W m) W []:=⟨Below.refl _ _,(fun _ _ _ h => by cases h),List.Pairwise.nil,Nat.le_refl _,fun _ _ _ h _ => h⟩
theorem St.grown {W w : World} {m : Nat} {L : Blocks} (h : St (pb W m) w L) : Gr W w:=h.below
section
variable {P : Program} {W : World} {m n : Nat} {Q : Exit → Act → World → Prop} {F : Slots} {L : Blocks} {ops : Array Oper} {o : Oper} {rest : List Oper}
theorem operIn_wide {o : Oper} {a : Act} {w : World} {K : Act → World → Prop} (hd : ∀ c,o.op ≠ .defer c) (h : o.wp P a w K Q) : o.wpIn Fence.wide m P a w K Q:=by
 unfold Oper.wpIn
 refine ⟨fun _ _ => trivial,?_⟩
 rw [Oper.semAt_plain _ _ _ hd]
 unfold Oper.wp at h
 generalize (execOp a.eval o).run P w = r at *
 cases r with
 | ok x w' =>
  cases x <;> simp only [Oper.upon,Oper.uponIn] at h ⊢ <;> first
   | exact h
   | exact ⟨fun e => by simp [Fence.wide] at e,callsIn_wide.2 h⟩
   | exact ⟨fun e => by simp [Fence.wide] at e,fun c cs _ => let ⟨v,w',r,s⟩:=h c cs; ⟨v,w',r,stepsIn_wide.2 s⟩⟩
   | exact h.elim
 | halt x w' => cases x <;> simp only [Oper.upon,Oper.uponIn] at h ⊢ <;> exact h
def thenI (P : Program) (ops : Array Oper) (m : Nat) (rest : List Oper) (Q : Exit → Act → World → Prop) : Exit → Act → World → Prop
 | .normal,a,w => wpListIn Fence.wide m P ops Q rest a w
 | e,a,w => Q e a w
theorem listIn_app (hq : ¬ LetsOut Q) : ∀ (l : List Oper),(∀ o ∈ l, ∀ c,o.op ≠ .defer c) → ∀ (a : Act) (w : World),wpList P ops (thenI P ops m rest Q) l a w → wpListIn Fence.wide m P ops Q (l ++ rest) a w
 | [],_,_,_,h => h
 | o :: l,hd,a,w,h => by
  have hq' : ¬ LetsOut (thenI P ops m rest Q):=fun ⟨a,w,q⟩ => hq ⟨a,w,q⟩
  unfold wpList at h
  show wpListIn Fence.wide m P ops Q (o :: (l ++ rest)) a w
  unfold wpListIn
  split
  ·rename_i hw
   simp only [hw,if_true] at h
   rcases h with h | h
   ·have h1:=operIn_wide (m:=m) (hd o (by simp)) h
    have h2 : o.wpIn Fence.wide m P a w _ Q:=h1
    exact Oper.wpIn_mono (fun a w h' => listIn_app hq l (fun o ho => hd o (by simp [ho])) a w h') h2
   ·exact absurd h.2 hq'
  ·rename_i hw
   simp only [hw] at h
   exact ⟨fun _ _ => trivial,listIn_app hq l (fun o ho => hd o (by simp [ho])) _ _ h⟩
theorem listIn_wide (hq : ¬ LetsOut Q) : ∀ (l : List Oper),(∀ o ∈ l, ∀ c,o.op ≠ .defer c) → ∀ (a : Act) (w : World),wpList P ops Q l a w → wpListIn Fence.wide m P ops Q l a w
 | [],_,_,_,h => h
 | o :: l,hd,a,w,h => by
  unfold wpList at h
  unfold wpListIn
  split
  ·rename_i hw
   simp only [hw,if_true] at h
   rcases h with h | h
   ·exact Oper.wpIn_mono (fun a w h' => listIn_wide hq l (fun o ho => hd o (by simp [ho])) a w h') (operIn_wide (hd o (by simp)) h)
   ·exact absurd h.2 hq
  ·rename_i hw
   simp only [hw] at h
   exact ⟨fun _ _ => trivial,listIn_wide hq l (fun o ho => hd o (by simp [ho])) _ _ h⟩
theorem noDefer_mem (h : noDefer ops = true) {o : Oper} (ho : o ∈ ops.toList) : ∀ c,o.op ≠ .defer c:=by
 obtain ⟨i,hi⟩:=List.mem_iff_getElem?.1 ho
 exact noDefer_spec h (by simpa using hi)
theorem regionY {i : Nat} (k : Nat) (hq : ¬ LetsOut Q) (hd : noDefer ops = true) (h : wpS P (pb W m) n ops (thenI P ops m (ops.toList.drop k) Q) F L (ops.toList.take k)) : wpC P (pb W m) n Q F L (.region i ops false):=fun a w ha hw => by
 refine wpIn_region_list ?_
 have h1:=listIn_app hq (ops.toList.take k) (fun o ho => noDefer_mem hd (List.mem_of_mem_take ho)) a w (h a w ha hw)
 rwa [List.take_append_drop] at h1
theorem yieldX {ro : Option Nat} {k : Nat} (hl : ops.toList.drop k = o :: rest) (hq : ¬ LetsOut Q) (hd : noDefer ops = true) (hg : good ops n F o = true) (l : Nat) (args : Array Value) (he : ∀ w,(execOp (evF F) o).run P w = (Instr.yield l args).run P w)
  (R : Ending → World → Prop) (hY : ∀ w,Gr W w → YieldAt Fence.wide (m - 1) P l args w R) (hR : ∀ e w',R e w' → ∃ b,e = .returned (.bool b)) (_ : ro = none)
  (h : ∀ w' b,R (.returned (.bool b)) w' → wpS P (pb w' m) n ops Q (putF F o.dst (.bool b)) [] rest) : X (pb W m) n (thenI P ops m (ops.toList.drop k) Q) F L .normal:=fun a w ha hw => by
 show wpListIn Fence.wide m P ops Q (ops.toList.drop k) a w
 have hdr : ∀ o ∈ ops.toList.drop k, ∀ c,o.op ≠ .defer c:=fun o ho => noDefer_mem hd (List.mem_of_mem_drop ho)
 rw [hl] at hdr ⊢
 obtain ⟨g1,_,g3,_⟩:=good_spec hg
 unfold wpListIn
 rw [if_pos (ha.wanted g1)]
 unfold Oper.wpIn
 refine ⟨fun _ _ => trivial,?_⟩
 rw [Oper.semAt_plain _ _ _ (hdr o (by simp)),good_exec hg ha,he w]
 obtain ⟨fn,tmps,assign,body,e1,e2⟩:=hY w hw.grown
 rw [e1]
 refine ⟨fun e => by simp [Fence.wide] at e,e2.mono fun e w' hr => ?_⟩
 obtain ⟨b,rfl⟩:=hR e w' hr
 exact listIn_wide hq rest (fun o ho => hdr o (by simp [ho])) _ _ (h w' b hr _ _ (ha.put g3 _) (St.here w' m))
theorem abides_gr {β : Type} {B : Nat} {J : β → World → Prop} (h : AbidesFrom B J) {s : β} {X Y : World} (hj : J s X) (hg : Gr X Y) : J s Y:=h s X Y none hj (only_of_below hg none) (fun r e => by cases e)
theorem yield_mono {l : Nat} {args : Array Value} {R R' : Ending → World → Prop} (h : YieldAt Fence.wide m P l args W R) (hr : ∀ e w,R e w → R' e w) : YieldAt Fence.wide m P l args W R':=by
 obtain ⟨fn,tmps,assign,body,e1,e2⟩:=h
 exact ⟨fn,tmps,assign,body,e1,e2.mono hr⟩
def NextP (n N : Nat) (FF : Nat → Slots) (Z : Nat → World → Prop) (k : Nat) : Act → World → Prop:=fun a w => k < N ∧ Fr [] a n (FF (k + 1)) ∧ Z (k + 1) w
theorem loopP {c : Code} (N : Nat) (FF : Nat → Slots) (Z : Nat → World → Prop) (hF : ∀ p ∈ FF 0,F.lookup p.1 = some p.2) (h0 : ∀ w,Gr W w → Z 0 w)
  (hr : ∀ k w,k ≤ N → Z k w → wpC P (pb w m) n (Exit.then (NextP n N FF Z k) Q) (FF k) [] c) : wpC P (pb W m) n Q F L (.loop c) :=
 loopI N (fun k a w => Fr [] a n (FF k) ∧ Z k w) (fun a w ha hw => ⟨ha.all hF,h0 w hw.grown⟩)
  fun k hk a w ⟨ha,hz⟩ => hr k w hk hz a w ha (St.here w m)
theorem againP {N : Nat} {FF : Nat → Slots} {Z : Nat → World → Prop} {k : Nat} {R : Exit → Act → World → Prop} (hk : k < N) (hF : ∀ p ∈ FF (k + 1),F.lookup p.1 = some p.2) (hz : ∀ w,Gr W w → Z (k + 1) w) :
  X (pb W m) n (Exit.then (NextP n N FF Z k) R) F L .normal:=fun _ w ha hw => ⟨hk,ha.all hF,hz w hw.grown⟩
theorem enterP {f : FuncId} {fn : Func} {c : Code} {args : List Value} {R : Ending → World → Prop} (hf : P.funcs[f]? = some fn) (hb : fn.body = some c) (hn : args.length ≤ fn.ntmps)
  (h : wpC P (pb W m) fn.ntmps (bodyPost P fn R) (slotsOf 0 args) [] c) : CallsIn Fence.wide m P f args.toArray W R :=
 callsIn_of_wp hf hb trivial (h _ _ ⟨rfl,by simp; omega,fun i v hi => by
  have:=(lookup_slotsOf args 0 i v hi).2
  rw [Nat.sub_zero] at this
  have hl:=(List.getElem?_eq_some_iff.1 this).1
  rw [Array.getElem?_append_left (by simpa using hl)]
  simpa using this⟩ (St.here W m)) rfl
theorem retP {fn : Func} {R : Ending → World → Prop} (hr : fn.results = #[]) (h : ∀ v w,Gr W w → R (.returned v) w) {e : Exit} (he : e = .ret ∨ e = .normal) : X (pb W m) n (bodyPost P fn R) F L e:=fun a w ha hw => by
 have hx : a.defers = [] ∧ ∃ v,(results fn a.tmps).run P w = .ok v w ∧ R (.returned v) w:=⟨ha.1,_,results_none hr _ _ _,h _ w hw.grown⟩
 rcases he with rfl | rfl <;> exact hx
end
end Sy
end
section
namespace Cu
open Go.RowKit Sy
set_option maxRecDepth 100000
set_option maxHeartbeats 4000000
def chV (b off m c : Nat) : Value:=.slice (some ⟨b,off + 32 * c * 13,none⟩) (szC m c) (szC m c)
def chE (b off m : Nat) {N : Nat} (x : Fin N) : Array Value:=#[chV b off m x.val]
set_option maxHeartbeats 1000000 in
theorem chunk_any (w : World) (A : Option Addr) (m cap : Nat) :
    Calls Tryz.prog 177 #[.slice A m cap,.int .i64 32] w (GetsN w fun v M => ∃ g1 g2,v = .func (.func 197) #[] #[.pointer (some ⟨g1,0,none⟩),.pointer (some ⟨g2,0,none⟩)] ∧ M = [(g1,177,#[.slice A m cap]),(g2,3,#[.int .i64 32])]):=by
  go_enter Tryz.func177,Tryz.ntmps177
  go_wp2
  go_ret
  refine ⟨_,_,rfl,⟨_,_,rfl,rfl⟩,below_alloc2 w _ _,fun g t cs hm => ?_,?_⟩
  · simp only [List.mem_cons,List.not_mem_nil,or_false,Prod.mk.injEq] at hm
    rcases hm with ⟨rfl,rfl,rfl⟩ | ⟨rfl,rfl,rfl⟩
    · exact ⟨Nat.le_refl _,(Blk.new w _ _).alloc _⟩
    · exact ⟨by omega,blk_new2 w _ _ _⟩
  · simp
theorem chunk1_in (n l Bs Bn n₀ b off m cap N : Nat) (hN0 : N = (m + 31) / 32) (hm : m ≤ cap) (hm2 : m ≤ 4611686018427387904) (J Jx : List (Fin N) → World → Prop) (W : World) (hJ : AbidesFrom W.heap.size J) (hJx : AbidesFrom W.heap.size Jx)
    (hY : ∀ pre x W1,J pre W1 → pre.length < N → YieldAt Fence.wide (n - 1) Tryz.prog l (chE b off m x) W1 fun e W' => (e = .returned (.bool true) ∧ J (pre ++ [x]) W' ∧ KpL n₀ [(Bs,177,#[.slice (some ⟨b,off,none⟩) m cap]),(Bn,3,#[.int .i64 32])] W1 W') ∨ (e = .returned (.bool false) ∧ Jx (pre ++ [x]) W'))
    (hS : Blk W Bs 177 #[.slice (some ⟨b,off,none⟩) m cap]) (hN : Blk W Bn 3 #[.int .i64 32]) (h0 : J [] W) :
    CallsIn Fence.wide n Tryz.prog 197 #[.func (.yield l) #[] #[],.pointer (some ⟨Bs,0,none⟩),.pointer (some ⟨Bn,0,none⟩)] W fun e W' => (∃ v,e = .returned v) ∧ ((∃ ys : List (Fin N),ys.map (·.1) = List.range N ∧ J ys W') ∨ (∃ pre : List (Fin N),(∃ k,k ≤ N ∧ pre.map (·.1) = List.range k) ∧ Jx pre W')):=by
  refine Sy.enterP (args:=[.func (.yield l) #[] #[],.pointer (some ⟨Bs,0,none⟩),.pointer (some ⟨Bn,0,none⟩)]) Tryz.func197 rfl kL ?_
  refine sC ?_
  refine sP (.int .i64 0) ?_
  refine sG <| Sy.block ?_
  refine Sy.loopP N (fun k1 => [(0,.func (.yield l) #[] #[]),(1,.pointer (some ⟨Bs,0,none⟩)),(2,.pointer (some ⟨Bn,0,none⟩)),(4,.int .i64 ((32 * k1 : Nat) : Int))]) (fun k1 w => ∃ pre : List (Fin N),pre.map (·.1) = List.range k1 ∧ J pre w ∧ Blk w Bs 177 #[.slice (some ⟨b,off,none⟩) m cap] ∧ Blk w Bn 3 #[.int .i64 32]) (all_cons kR (all_cons kR (all_cons kR (all_cons kR all_nil)))) (fun w hg => ⟨[],rfl,abides_gr hJ h0 hg,hg.blk hS,hg.blk hN⟩) (fun k1 wr hk1 hz => ?_)
  clear hS hN
  obtain ⟨pre,hpre,hj,hS,hN⟩:=hz
  have hlen : pre.length = k1:=by have:=congrArg List.length hpre; rwa [List.length_map,List.length_range] at this
  refine Sy.seq <| sC ?_
  refine sP (.int .i64 ((32 * k1 : Nat) : Int)) <| sS (.slice (some ⟨b,off,none⟩) m cap) (Quiet.thereOne Bs 0 177 _ _ rfl kR hS.lt _ (hS.cell 0) Tryz.underlying177 rfl) <| sP (.int .i64 ((m : Nat) : Int)) ?_
  obtain ⟨b1,hb1⟩ : ∃ z : Bool,z = decide (32 * k1 < m):=⟨_,rfl⟩
  refine sS (.bool b1) (Quiet.pure (exec_int .lss _ _ _ .i64 _ _ _ rfl rfl rfl (int_lss _ _ _ _ _ (by rw [hb1]; exact decide_eq_decide.2 (by omega))))) ?_
  refine sG ?_
  cases b1
  · have lb1 : ¬ (32 * k1 < m):=of_decide_eq_false hb1.symm
    refine sU <| Sy.exit <| Sy.then_exit <| Sy.then_exit ?_
    obtain rfl : N = k1:=by omega
    refine Sy.in_exit ?_
    exact Sy.retP rfl (fun v w3 hg => ⟨⟨_,rfl⟩,.inl ⟨pre,hpre,abides_gr hJ hj hg⟩⟩) (.inr rfl)
  · have lb1 : 32 * k1 < m := of_decide_eq_true hb1.symm
    refine sT <| Sy.skip <| Sy.then_ <| Sy.seq <| Sy.block <| Sy.seq ?_
    refine Sy.regionD (fun j => false) kR ?_
    refine sD 0 rfl (.int .i64 ((32 : Nat) : Int)) (Quiet.thereOne Bn 0 3 _ _ rfl kR hN.lt _ (hN.cell 0) Tryz.underlying3 rfl) <| sD 1 rfl (.slice (some ⟨b,off,none⟩) m cap) (Quiet.thereOne Bs 0 177 _ _ rfl kR hS.lt _ (hS.cell 0) Tryz.underlying177 rfl) <| sZ 2 rfl (.int .i64 ((32 * k1 : Nat) : Int)) <| sD 3 rfl (.slice (some ⟨b,off + (32 * k1) * 13,none⟩) (m - (32 * k1)) (cap - (32 * k1))) (Quiet.pure (exec_sl1 _ _ _ b off m cap (32 * k1) 13 .i64 rfl rfl rfl kR kF (by omega) (by omega))) <| sZ 4 rfl (.int .i64 (((m - (32 * k1)) : Nat) : Int)) ?_
    obtain ⟨sz,hsz⟩ : ∃ z,z = szC m k1:=⟨_,rfl⟩
    have hs : 0 < sz ∧ 32 * k1 + sz ≤ m:=by rw [hsz]; unfold szC; omega
    refine sD 5 rfl (.int .i64 ((sz : Nat) : Int)) (Quiet.pure (exec_min _ _ .i64 32 (m - (32 * k1)) sz rfl rfl rfl (by rw [hsz]; unfold szC; omega))) <| sZ 6 rfl (.int .i64 ((sz : Nat) : Int)) ?_
    refine sI ?_
    refine Sy.seq ?_
    have hx : k1 < N:=by omega
    refine Sy.regionY 10 (by rintro ⟨_,_,⟨_,hv⟩,_⟩; cases hv) kR ?_
    refine sP (.func (.yield l) #[] #[]) <| sS (.slice (some ⟨b,off,none⟩) m cap) (Quiet.thereOne Bs 0 177 _ _ rfl kR hS.lt _ (hS.cell 0) Tryz.underlying177 rfl) <| sP (.int .i64 ((32 * k1 : Nat) : Int)) <| sP (.int .i64 ((32 * k1 : Nat) : Int)) <| sP (.int .i64 ((sz : Nat) : Int)) <| sS (.int .i64 (((32 * k1) + sz : Nat) : Int)) (Quiet.pure (exec_int .add _ _ _ .i64 _ _ _ rfl rfl rfl (int_add _ _ _ _ _ ((wrap_i64 (by omega) (by omega)).trans (by omega))))) <| sP (.int .i64 ((32 * k1 : Nat) : Int)) <| sP (.int .i64 ((sz : Nat) : Int)) ?_
    refine sS (.int .i64 (((32 * k1) + sz : Nat) : Int)) (Quiet.pure (exec_int .add _ _ _ .i64 _ _ _ rfl rfl rfl (int_add _ _ _ _ _ ((wrap_i64 (by omega) (by omega)).trans (by omega))))) <| sS (.slice (some ⟨b,off + (32 * k1) * 13,none⟩) (((32 * k1) + sz) - (32 * k1)) (((32 * k1) + sz) - (32 * k1))) (Quiet.pure (exec_sl3 _ _ _ _ _ b off m cap (32 * k1) ((32 * k1) + sz) ((32 * k1) + sz) 13 .i64 .i64 .i64 rfl rfl rfl rfl rfl kR kF (by have:=hs; omega) (by have:=hs; omega) (by have:=hs; omega) (by have:=hs; omega))) ?_
    refine Sy.nil ?_
    refine Sy.yieldX (ro := none) rfl (by rintro ⟨_, _, ⟨_, hv⟩, _⟩; cases hv) kR kR l #[.slice (some ⟨b, off + (32 * k1) * 13, none⟩) (((32 * k1) + sz) - (32 * k1)) (((32 * k1) + sz) - (32 * k1))] kF (fun e W' => (e = .returned (.bool true) ∧ J (pre ++ [⟨k1, hx⟩]) W' ∧ Blk W' Bs 177 #[.slice (some ⟨b, off, none⟩) m cap] ∧ Blk W' Bn 3 #[.int .i64 32]) ∨ (e = .returned (.bool false) ∧ Jx (pre ++ [⟨k1, hx⟩]) W')) (fun w hg => by
            have e : chE b off m ⟨k1,hx⟩ = #[.slice (some ⟨b,off + 32 * k1 * 13,none⟩) (32 * k1 + sz - 32 * k1) (32 * k1 + sz - 32 * k1)]:=by unfold chE chV; rw [← hsz,Nat.add_sub_cancel_left]
            have y:=hY pre ⟨k1,hx⟩ w (abides_gr hJ hj hg) (by omega)
            rw [e] at y
            exact yield_mono y (fun e w' q => q.imp (fun q => ⟨q.1,q.2.1,q.2.2.2 (Bs,177,_) (by simp) (hg.blk hS),q.2.2.2 (Bn,3,_) (by simp) (hg.blk hN)⟩) id)) (fun e w' q => q.elim (fun q => ⟨_,q.1⟩) (fun q => ⟨_,q.1⟩)) rfl (fun w2 b hr => ?_)
    cases b
    · have hx2:=hr.elim (fun q => by cases q.1) (fun q => q.2)
      refine sP (.bool true) ?_
      refine sG <| sT <| Sy.ret <| Sy.in_ret <| Sy.then_ret <| Sy.then_ret <| Sy.in_ret ?_
      exact Sy.retP rfl (fun v w3 hg => ⟨⟨_,rfl⟩,.inr ⟨pre ++ [⟨k1,hx⟩],⟨k1 + 1,by omega,by rw [List.map_append,hpre,List.range_succ]; rfl⟩,abides_gr hJx hx2 hg⟩⟩) (.inl rfl)
    · clear hS hN hj
      obtain ⟨hj,hS,hN⟩:=hr.elim (fun q => q.2) (fun q => by cases q.1)
      refine sP (.bool false) ?_
      refine sG <| sU <| Sy.skip <| Sy.in_ <| Sy.then_ <| Sy.region ?_
      refine sP (.int .i64 ((32 * k1 : Nat) : Int)) <| sS (.int .i64 ((32 : Nat) : Int)) (Quiet.thereOne Bn 0 3 _ _ rfl kR hN.lt _ (hN.cell 0) Tryz.underlying3 rfl) <| sS (.int .i64 (((32 * k1) + 32 : Nat) : Int)) (Quiet.pure (exec_int .add _ _ _ .i64 _ _ _ rfl rfl rfl (int_add _ _ _ _ _ ((wrap_i64 (by omega) (by omega)).trans (by omega))))) <| sP (.int .i64 (((32 * k1) + 32 : Nat) : Int)) ?_
      refine Sy.nil ?_
      exact Sy.againP (by omega) (all_cons kR (all_cons kR (all_cons kR (all_cons kR all_nil)))) (fun w3 hg => ⟨pre ++ [⟨k1,hx⟩],by rw [List.map_append,hpre,List.range_succ]; rfl,abides_gr hJ hj hg,hg.blk hS,hg.blk hN⟩)
theorem chunk0_in (n l Bs Bn cap : Nat) (A : Option Addr) (J Jx : List (Fin 0) → World → Prop) (W : World) (hJ : AbidesFrom W.heap.size J)
    (hS : Blk W Bs 177 #[.slice A 0 cap]) (hN : Blk W Bn 3 #[.int .i64 32]) (h0 : J [] W) :
    CallsIn Fence.wide n Tryz.prog 197 #[.func (.yield l) #[] #[],.pointer (some ⟨Bs,0,none⟩),.pointer (some ⟨Bn,0,none⟩)] W fun e W' => (∃ v,e = .returned v) ∧ ((∃ ys : List (Fin 0),ys.map (·.1) = List.range 0 ∧ J ys W') ∨ (∃ pre : List (Fin 0),(∃ k,k ≤ 0 ∧ pre.map (·.1) = List.range k) ∧ Jx pre W')):=by
  refine Sy.enterP (args:=[.func (.yield l) #[] #[],.pointer (some ⟨Bs,0,none⟩),.pointer (some ⟨Bn,0,none⟩)]) Tryz.func197 rfl kL ?_
  refine sC ?_
  refine sP (.int .i64 0) ?_
  refine sG <| Sy.block ?_
  refine Sy.loopP 0 (fun k1 => [(0,.func (.yield l) #[] #[]),(1,.pointer (some ⟨Bs,0,none⟩)),(2,.pointer (some ⟨Bn,0,none⟩)),(4,.int .i64 ((32 * k1 : Nat) : Int))]) (fun k1 w => J [] w ∧ Blk w Bs 177 #[.slice A 0 cap] ∧ Blk w Bn 3 #[.int .i64 32]) (all_cons kR (all_cons kR (all_cons kR (all_cons kR all_nil)))) (fun w hg => ⟨abides_gr hJ h0 hg,hg.blk hS,hg.blk hN⟩) (fun k1 wr hk1 hz => ?_)
  clear hS hN
  obtain ⟨hj,hS,hN⟩:=hz
  refine Sy.seq <| sC ?_
  refine sP (.int .i64 ((32 * k1 : Nat) : Int)) <| sS (.slice A 0 cap) (Quiet.thereOne Bs 0 177 _ _ rfl kR hS.lt _ (hS.cell 0) Tryz.underlying177 rfl) <| sP (.int .i64 ((0 : Nat) : Int)) ?_
  obtain ⟨b1,hb1⟩ : ∃ z : Bool,z = decide (32 * k1 < 0):=⟨_,rfl⟩
  refine sS (.bool b1) (Quiet.pure (exec_int .lss _ _ _ .i64 _ _ _ rfl rfl rfl (int_lss _ _ _ _ _ (by rw [hb1]; exact decide_eq_decide.2 (by omega))))) ?_
  refine sG ?_
  cases b1
  · have lb1 : ¬ (32 * k1 < 0):=of_decide_eq_false hb1.symm
    refine sU <| Sy.exit <| Sy.then_exit <| Sy.then_exit ?_
    obtain rfl : k1 = 0:=by omega
    refine Sy.in_exit ?_
    exact Sy.retP rfl (fun v w3 hg => ⟨⟨_,rfl⟩,.inl ⟨[],rfl,abides_gr hJ hj hg⟩⟩) (.inr rfl)
  · have lb1 : 32 * k1 < 0:=of_decide_eq_true hb1.symm
    refine sT <| Sy.skip <| Sy.then_ <| Sy.seq ?_
    exact absurd lb1 (by omega)
def TSrc (w : World) (A : Option Addr) (n : Nat) (T : Nat → Trm) (b o : Nat) : Prop:=0 < n → A = some ⟨b,o,none⟩ ∧ b < w.heap.size ∧ ∀ j,j < n → w.rangeAt b (o + j * 13) (T j).cells
theorem chunk_stops (n Bs Bn n₀ b off m cap N : Nat) (A : Option Addr) (hN0 : N = (m + 31) / 32) (hm : m ≤ cap) (hm2 : m ≤ 4611686018427387904) (hA : 0 < m → A = some ⟨b, off, none⟩) (w : World) (hS : Blk w Bs 177 #[.slice A m cap]) (hN : Blk w Bn 3 #[.int .i64 32]) :
    SeqStopsK Fence.wide n Tryz.prog 197 #[.pointer (some ⟨Bs,0,none⟩),.pointer (some ⟨Bn,0,none⟩)] (chE b off m (N:=N)) (KpL n₀ [(Bs,177,#[.slice A m cap]),(Bn,3,#[.int .i64 32])]) (fun ys => ys.map (·.1) = List.range N) (fun pre => ∃ k,k ≤ N ∧ pre.map (·.1) = List.range k) N w:=fun l J Jx W hW hJ hJx hY h0 => by
  have hS':=hS.below hW hS.lt
  have hN':=hN.below hW hN.lt
  rcases Nat.eq_zero_or_pos m with h | h
  · subst h
    obtain rfl : N = 0:=hN0
    exact chunk0_in n l Bs Bn cap A J Jx W hJ hS' hN' h0
  · obtain rfl:=hA h
    exact chunk1_in n l Bs Bn n₀ b off m cap N hN0 hm hm2 J Jx W hJ hJx hY hS' hN' h0
end Cu
end
section
namespace Cu
open Go.RowKit Sy
theorem rangeN2 {w w' : World} {g o o' : Nat} {vs : List Value} (h : w.rangeAt g o vs) (hb : Below w.heap.size w w') (hg : g < w.heap.size) (e : o' = o) : w'.rangeAt g o' vs:=fun j v hj => by
 rw [e]
 exact (Below.cell (p:=⟨g,o + j,none⟩) hb hg).trans (h j v hj)
set_option maxHeartbeats 4000000 in
set_option maxRecDepth 100000 in
theorem multi_any (w : World) (A : Option Addr) (b o n c : Nat) (T : Nat → Trm) (hnc : n ≤ c) (hc : n ≤ 4611686018427387904) (hok : ∀ j,(T j).ok) (hT : TSrc w A n T b o) : Calls Tryz.prog 143 #[.slice A n c] w (Gets w (ptv (Ec.sumL finv (fun t => Ec.nm finv (T t).kn (T t).pt) (List.range n)))):=by
 obtain ⟨N,hN0⟩ : ∃ N,N = (n + 31) / 32:=⟨_,rfl⟩
 obtain ⟨R,hR⟩ : ∃ R,R = ptJ (chL T n (List.range N)):=⟨_,rfl⟩
 have hRs : Ec.sumL finv (fun t => Ec.nm finv (T t).kn (T t).pt) (List.range n) = R:=by rw [hR,hN0]; exact (ptJ_rep (chL_all T n)).symm
 rw [hRs]
 have hRo : Ec.On R:=by rw [← hRs]; exact Ec.On.sumL fld _ fun x _ => (T x).on.nm fld _
 obtain ⟨rx,ry,ri,_,_,eR,_,_⟩:=ptv_raw R hRo
 rw [eR]
 refine Sy.enterM (args:=[.slice A n c]) Tryz.func143 rfl kL ?_
 refine sC ?_
 refine sM 71 (pcs 0 0 false) (fun g0 => ?_)
 refine sA ?_
 refine sM 212 (tcs 0 0 0) (fun g1 => ?_)
 refine sG <| Sy.seq <| sC ?_
 refine sP (.slice A n c) ?_
 refine Sy.callN kR 177 #[.slice A n c,.int .i64 32] kF (fun v M => ∃ g1 g2,v = .func (.func 197) #[] #[.pointer (some ⟨g1,0,none⟩),.pointer (some ⟨g2,0,none⟩)] ∧ M = [(g1,177,#[.slice A n c]),(g2,3,#[.int .i64 32])]) (fun w _ => chunk_any w _ _ _) (fun v M hR0 => ?_)
 obtain ⟨u1,u2,rfl,rfl⟩:=hR0
 refine sG <| Sy.block ?_
 refine Sy.rangeF (α:=Fin N) 197 #[.pointer (some ⟨u1,0,none⟩),.pointer (some ⟨u2,0,none⟩)] kR kR (enters_of Tryz.func197 kR rfl) (chE b o n) [(u1,177,(#[.slice A n c])),(u2,3,(#[.int .i64 32]))] (fun ys => ys.map (·.1) = List.range N) (fun pre => ∃ k,k ≤ N ∧ pre.map (·.1) = List.range k) N (fun _ => rfl) (by decide) [g0,g1,u1,u2] (fun _ => True) (trivial) (fun pre => [(g0,71,(pcs 0 0 false)),(g1,212,(tcs ((chL T n (pre.map (·.1))).x.val) ((chL T n (pre.map (·.1))).y.val) ((chL T n (pre.map (·.1))).z.val))),(u1,177,(#[.slice A n c])),(u2,3,(#[.int .i64 32]))]) (fun pre => [(g0,71,(pcs 0 0 false)),(g1,212,(tcs ((chL T n (pre.map (·.1))).x.val) ((chL T n (pre.map (·.1))).y.val) ((chL T n (pre.map (·.1))).z.val))),(u1,177,(#[.slice A n c])),(u2,3,(#[.int .i64 32]))]) (fun _ => False) [true,true,true,true] kR (fun _ => rfl) ?_ ?_ 0 (fun x gs => [(3,.pointer (some ⟨g1,0,none⟩)),(4,chV b o n x.val)]) (fun x gs => []) (fun x gs h => by cases gs with | nil => rfl | cons _ _ => cases h) ?_ ?_ ?_ ?_
 ·intro w hw
  have hS:=hw.get (i:=2) rfl
  have hN:=hw.get (i:=3) rfl
  exact ⟨w,Below.refl _ _,chunk_stops 8 u1 u2 _ b o n c N A hN0 hnc hc (fun h => (hT h).1) w hS hN⟩
 ·intro p hp pre
  simp only [List.mem_cons,List.not_mem_nil,or_false] at hp ⊢
  rcases hp with rfl | rfl <;> simp
 ·intro l fz pre x
  refine Sy.regionR (by rintro ⟨_,_,h⟩; exact h) kR ⟨_,rfl⟩ ?_
  refine sP (chV b o n x.val) ?_
  refine Sy.nil ?_
  exact Sy.apN [] rfl (all_cons kR (all_cons kR all_nil)) [true,true,true,true] kR
 ·intro l fz pre x gs hgs hlen hH
  obtain rfl : gs = []:=List.eq_nil_of_length_eq_zero hgs
  have hxN:=x.isLt
  have hn0 : 0 < n:=by omega
  refine Sy.block ?_
  refine Sy.regionRD (by rintro ⟨_,_,h⟩; exact h) kR ⟨_,rfl⟩ (fun j => j == 4) kR ?_
  refine sD 0 rfl (tv ((chL T n (pre.map (·.1))).x.val) ((chL T n (pre.map (·.1))).y.val) ((chL T n (pre.map (·.1))).z.val)) (qL 1 g1 0 12 212 212 (tcs ((chL T n (pre.map (·.1))).x.val) ((chL T n (pre.map (·.1))).y.val) ((chL T n (pre.map (·.1))).z.val)) rfl Tryz.underlying212) <| sZ 1 rfl (chV b o n x.val) ?_
  obtain ⟨j1,hj1⟩ : ∃ z : J,z = muJ (fun j => T (x.val * 32 + j)) (szC n x.val) 64:=⟨_,rfl⟩
  refine sD 2 rfl (tv j1.x.val j1.y.val j1.z.val) (qG 179 #[chV b o n x.val] (fun w hw => by rw [hj1]; exact multi_c w b (o + 32 * x.val * 13) (szC n x.val) (szC n x.val) (fun j => T (x.val * 32 + j)) (Nat.lt_of_lt_of_le (hT hn0).2.1 hw.below.size) (by unfold szC; omega) (fun j => hok _) (fun j hj => rangeN2 ((hT hn0).2.2 (x.val * 32 + j) (by unfold szC at hj; omega)) hw.below (hT hn0).2.1 (by omega)))) ?_
  obtain ⟨j2,hj2⟩ : ∃ z : J,z = addJ (chL T n (pre.map (·.1))) j1:=⟨_,rfl⟩
  refine sD 3 rfl (tv j2.x.val j2.y.val j2.z.val) (qF 178 #[tv ((chL T n (pre.map (·.1))).x.val) ((chL T n (pre.map (·.1))).y.val) ((chL T n (pre.map (·.1))).z.val),tv j1.x.val j1.y.val j1.z.val] (fun w => by rw [hj2]; exact addJ_c w (chL T n (pre.map (·.1))) j1)) <| sX 4 rfl 1 g1 212 (tcs ((chL T n (pre.map (·.1))).x.val) ((chL T n (pre.map (·.1))).y.val) ((chL T n (pre.map (·.1))).z.val)) (tcs j2.x.val j2.y.val j2.z.val) (wS 0 212 (tcs j2.x.val j2.y.val j2.z.val) rfl) ?_
  refine sE ?_
  refine Sy.in_ ?_
  exact Sy.bpN [true,true,true,true] (M:=[(g0,71,(pcs 0 0 false)),(g1,212,(tcs j2.x.val j2.y.val j2.z.val)),(u1,177,(#[.slice A n c])),(u2,3,(#[.int .i64 32]))]) kR (bcons rfl (bcons (beq (by rw [hj2,hj1,List.map_append,List.map_singleton,chL_snoc]; rfl)) (bcons rfl (bcons rfl rfl)))) (trivial)
 ·intro D fz xs hS hH hD hm
  have hS0 : xs.map (·.1) = List.range N:=hS
  refine Sy.in_ <| sB ?_
  refine sS (tv ((chL T n (xs.map (·.1))).x.val) ((chL T n (xs.map (·.1))).y.val) ((chL T n (xs.map (·.1))).z.val)) (qL 1 g1 0 12 212 212 (tcs ((chL T n (xs.map (·.1))).x.val) ((chL T n (xs.map (·.1))).y.val) ((chL T n (xs.map (·.1))).z.val)) rfl Tryz.underlying212) <| sS (pv rx ry ri) (qF 180 #[tv ((chL T n (xs.map (·.1))).x.val) ((chL T n (xs.map (·.1))).y.val) ((chL T n (xs.map (·.1))).z.val)] (fun w => by rw [← eR,hR, ← hS0]; exact point_c w _)) <| sW 0 g0 71 (pcs 0 0 false) (pcs rx ry ri) (wS 0 71 (pcs rx ry ri) rfl) ?_
  refine sG <| Sy.ret ?_
  exact Sy.retM1 (v:=pv rx ry ri) rfl (.inl (Res.cell (ty':=71) g0 0 (pcs rx ry ri) _ kR kR Tryz.underlying71 rfl kR kR)) hD hm
 ·intro D fz pre hS hx hD hm
  exact hx.elim
end Cu
end
section
namespace Cu
open Go.RowKit Sy
theorem one_part {w : World} {g : Nat} {vs : List Value} (h : w.rangeAt g 0 vs) : ∀ j,j < 1 → w.rangeAt g (0 + j * 13) vs:=fun j hj => by
 obtain rfl : j = 0:=by omega
 exact h
def pX : Pt → Nat
 | none => 0
 | some (x,_) => x.val
def pY : Pt → Nat
 | none => 0
 | some (_,y) => y.val
def pI : Pt → Bool
 | none => true
 | some _ => false
theorem ptv_parts : ∀ P : Pt,ptv P = pv (pX P) (pY P) (pI P)
 | none => rfl
 | some (_,_) => rfl
theorem pX_lt : ∀ P : Pt,pX P < K4
 | none => by show 0 < _; decide
 | some (x,_) => lt4 x
theorem pY_lt : ∀ P : Pt,pY P < K4
 | none => by show 0 < _; decide
 | some (_,y) => lt4 y
theorem dec_parts : ∀ {P : Pt},Ec.On P → dec (pX P) (pY P) (pI P) = P
 | none,_ => dec_zero
 | some (x,y),h => dec_fin x y h
set_option maxHeartbeats 4000000 in
set_option maxRecDepth 100000 in
theorem mul_any (w : World) (k x y : Nat) (i : Bool) (hk : k < K4) (hx : x < K4) (hy : y < K4) : Calls Tryz.prog 93 #[fv k,pv x y i] w (Gets w (ptv (Ec.nm finv (k % Sc.pM) (dec x y i)))):=by
 obtain ⟨R,hR⟩ : ∃ R,R = Ec.sumL finv (fun t => Ec.nm finv ((fun _ : Nat => (⟨k,x,y,i⟩ : Trm)) t).kn ((fun _ : Nat => (⟨k,x,y,i⟩ : Trm)) t).pt) (List.range 1):=⟨_,rfl⟩
 have e : Ec.nm finv (k % Sc.pM) (dec x y i) = R:=by rw [hR]; exact (Ec.zero_add (inv:=finv) _).symm
 rw [e,ptv_parts]
 refine Sy.enter (args:=[fv k,pv x y i]) Tryz.func93 rfl kL ?_
 refine sC ?_
 refine sM 24 (fcs k) (fun g0 => ?_)
 refine sM 71 (pcs x y i) (fun g1 => ?_)
 refine sM 71 (pcs 0 0 false) (fun g2 => ?_)
 refine sA ?_
 refine sS (fv k) (qL 0 g0 0 4 24 24 (fcs k) rfl Tryz.underlying24) <| sS (pv x y i) (qL 1 g1 0 9 71 71 (pcs x y i) rfl Tryz.underlying71) <| sP (trv k x y i) ?_
 refine Sy.make kR 176 (trcs k x y i) (fun g => .slice (some ⟨g,0,none⟩) 1 1) kF (fun g3 => ?_)
 refine sS (pv (pX R) (pY R) (pI R)) (qG 143 #[.slice (some ⟨g3,0,none⟩) 1 1] (fun w hw => by rw [← ptv_parts,hR]; exact multi_any w _ g3 0 1 1 (fun _ => ⟨k,x,y,i⟩) (Nat.le_refl _) (by decide) (fun _ => ⟨hk,hx,hy⟩) (fun _ => ⟨rfl,(hw.get (i:=3) rfl).lt,one_part (blk_range (hw.get (i:=3) rfl) kR)⟩))) <| sW 2 g2 71 (pcs 0 0 false) (pcs (pX R) (pY R) (pI R)) (wS 0 71 (pcs (pX R) (pY R) (pI R)) rfl) ?_
 refine sG <| Sy.ret ?_
 exact rC (v:=pv (pX R) (pY R) (pI R)) 71 g2 2 (pcs (pX R) (pY R) (pI R)) rfl Tryz.underlying71
end Cu
end
section
namespace Sc
open Go.RowKit Go.Lib
def modV : Value:=.agg #[.int .u64 13822214165235122497,.int .u64 13451932020343611451,.int .u64 18446744073709551614,.int .u64 18446744073709551615,.int .u64 4624529908474429119,.int .u64 4994812053365940164,.int .u64 1]
theorem fv_P : fv 115792089237316195423570985008687907852837564279074904382605163141518161494337 = .agg #[.int .u64 13822214165235122497,.int .u64 13451932020343611451,.int .u64 18446744073709551614,.int .u64 18446744073709551615]:=rfl
theorem refN_any (w : World) : Calls Tryz.prog 75 #[] w fun e w' => e = .returned modV ∧ Below w.heap.size w w':=by
 go_enter Tryz.func75,Tryz.ntmps75
 go_wp2
 exact bodyPost_ret (results_cell_row rfl _ _ w.heap.size _ _ (0,0) _ rfl (heap_alloc_new w _) Tryz.underlying102 rfl (by kernel_rfl)) rfl ⟨rfl,(Below.refl _ _).alloc (Nat.le_refl _) _⟩
theorem refOf_any (w : World) (n : Nat) (hn : n < (2^256)) : Calls Tryz.prog 76 #[fv n] w fun e w' => e = .returned (fv n) ∧ Below w.heap.size w w':=by
 obtain ⟨a,b,c,d,fn⟩:=words_fv n hn
 rw [fn]
 clear fn
 go_enter Tryz.func76,Tryz.ntmps76
 go_wp2
 exact bodyPost_ret (results_cell_row rfl _ _ (w.heap.size + 1) _ _ (0,0) _ rfl (heap_alloc2_new w _ _) Tryz.underlying97 rfl (by kernel_rfl)) rfl ⟨rfl,below_alloc2 w _ _⟩
theorem refSc_any (w : World) (n : Nat) (hn : n < (2^256)) : Calls Tryz.prog 85 #[fv n] w fun e w' => e = .returned (fv n) ∧ Below w.heap.size w w':=by
 obtain ⟨a,b,c,d,fn⟩:=words_fv n hn
 rw [fn]
 clear fn
 go_enter Tryz.func85,Tryz.ntmps85
 go_wp2
 exact bodyPost_ret (results_cell_row rfl _ _ (w.heap.size + 1) _ _ (0,0) _ rfl (heap_alloc2_new w _ _) Tryz.underlying24 rfl (by kernel_rfl)) rfl ⟨rfl,below_alloc2 w _ _⟩
set_option maxHeartbeats 2000000 in
set_option maxRecDepth 100000 in
theorem normR_any (w : World) (x : Nat) (hx : x < (2^256)) : Calls Tryz.prog 74 #[modV,fv x] w fun e w' => e = .returned (fv (x % pM)) ∧ Below w.heap.size w w':=by
 obtain ⟨z,hz⟩ : ∃ z,z = x % pM:=⟨_,rfl⟩
 obtain ⟨p,hp⟩ : ∃ p,p = 115792089237316195423570985008687907852837564279074904382605163141518161494337:=⟨_,rfl⟩
 have hpl : p < (2^256):=by omega
 obtain ⟨b,hb⟩ : ∃ b,b = decide (x < p):=⟨_,rfl⟩
 have cb : ∀ w,Calls Tryz.prog 112 #[fv x,fv p] w fun e w' => e = .returned (.bool b) ∧ Below w.heap.size w w':=by
  intro w; rw [hb]; exact below_at w x p rfl rfl hx hpl
 have t1 : b = true → z = x:=fun h => by
  rw [hb] at h
  rw [hz]
  exact Nat.mod_eq_of_lt (by rw [pM_eq, ← hp]; simpa using h)
 have cm : b = false → ∀ w,Calls Tryz.prog 131 #[fv x,fv p] w fun e w' => e = .returned (fv z) ∧ Below w.heap.size w w':=fun h w => by
  rw [hb] at h
  have hle : ¬ x < p:=by simpa using h
  have hzx : z + p = x:=by rw [hz,red_once x hx,if_neg (by omega)]; omega
  exact minusR_at w x p z 0 rfl rfl hx hpl (by omega) (by omega)
 have hpc : fv p = .agg #[.int .u64 13822214165235122497,.int .u64 13451932020343611451,.int .u64 18446744073709551614,.int .u64 18446744073709551615]:=by rw [hp]; exact fv_P
 obtain ⟨x0,x1,x2,x3,fx⟩:=words_fv x hx
 have FX:=Lib.hid fx
 have FP:=Lib.hid hpc
 rw [fx, ← hz]
 unfold modV
 clear fx hpc hx hz hp hpl hb
 go_enter Tryz.func74,Tryz.ntmps74
 go_wp2_with (first | ((with_reducible refine here_load (d:=some 6) ?_); refine wpList_load_fv rfl _ _ rfl (w.heap.size + 1) rfl (x) _ _ _ ((blk_new2 w _ _ _).alloc _) (FX.out) Tryz.underlying97 rfl (by kernel_rfl) ?_) | ((with_reducible refine here_load (d:=some 8) ?_); refine wpList_load_part rfl _ _ rfl w.heap.size rfl p [.int .u64 13822214165235122497,.int .u64 13451932020343611451,.int .u64 18446744073709551614,.int .u64 18446744073709551615] _ (mod_range (((Blk.new w _ _).alloc _).alloc _)) FP.out Tryz.underlying97 rfl (by kernel_rfl) ?_))
 refine (cb _).mono ?_
 rintro e w1 ⟨rfl,k1⟩
 have BM : Blk w1 w.heap.size 102 _:=Gr.blk k1 (((Blk.new w _ _).alloc _).alloc _)
 have BX : Blk w1 (w.heap.size + 1) 97 _:=Gr.blk k1 ((blk_new2 w _ _ _).alloc _)
 have BR : Blk w1 (w.heap.size + 2) 97 _:=Gr.blk k1 (blk_new3 w _ _ _ _)
 have hB:=Below.gr (below_alloc3 w _ _ _) k1
 clear k1 cb
 cases b
 ·have cmm:=cm rfl
  clear cm t1
  go_wp2_with (first | ((with_reducible refine here_load (d:=some 12) ?_); refine wpList_load_fv rfl _ _ rfl (w.heap.size + 1) rfl (x) _ _ _ (BX) (FX.out) Tryz.underlying97 rfl (by kernel_rfl) ?_) | ((with_reducible refine here_load (d:=some 14) ?_); refine wpList_load_part rfl _ _ rfl w.heap.size rfl p [.int .u64 13822214165235122497,.int .u64 13451932020343611451,.int .u64 18446744073709551614,.int .u64 18446744073709551615] _ (mod_range (BM)) FP.out Tryz.underlying97 rfl (by kernel_rfl) ?_))
  refine (cmm _).mono ?_
  rintro e w2 ⟨rfl,k2⟩
  have BR2:=Gr.blk k2 BR
  have hB2:=Below.gr hB k2
  clear k2 cmm
  go_wp2_with (first | ((with_reducible refine here_store ?_); refine wpList_store_blk rfl _ _ _ rfl (w.heap.size + 2) (fcs (z)) rfl rfl _ _ (BR2) (by kernel_rfl) (by rfl) (fcs_one _) ?_; intro w9 hL9 hB9 hK9))
  exact bodyPost_ret (results_cell_row rfl _ _ (w.heap.size + 2) _ _ (0,0) _ rfl hL9 Tryz.underlying97 rfl (by kernel_rfl)) rfl ⟨rfl,hB2.trans (hB9 _ (by omega))⟩
 ·have HZX:=Lib.hid (t1 rfl)
  clear t1 cm
  go_wp2_with (first | ((with_reducible refine here_load (d:=some 11) ?_); refine wpList_load_fv rfl _ _ rfl (w.heap.size + 1) rfl (x) _ _ _ (BX) (FX.out) Tryz.underlying97 rfl (by kernel_rfl) ?_) | ((with_reducible refine here_store ?_); refine wpList_store_blk rfl _ _ _ rfl (w.heap.size + 2) (fcs (x)) rfl rfl _ _ (BR) (by kernel_rfl) (by rfl) (fcs_one _) ?_; intro w9 hL9 hB9 hK9))
  exact bodyPost_ret (results_cell_row rfl _ _ (w.heap.size + 2) _ _ (0,0) _ rfl hL9 Tryz.underlying97 rfl (by kernel_rfl)) rfl ⟨by rw [HZX.out]; rfl,hB.trans (hB9 _ (by omega))⟩
set_option maxHeartbeats 2000000 in
set_option maxRecDepth 100000 in
theorem rightR_any (w : World) (x : Nat) (hx : x < (2^256)) : Calls Tryz.prog 53 #[modV,fv x] w fun e w' => e = .returned (.bool (decide (x < pM))) ∧ Below w.heap.size w w':=by
 obtain ⟨p,hp⟩ : ∃ p,p = 115792089237316195423570985008687907852837564279074904382605163141518161494337:=⟨_,rfl⟩
 obtain ⟨b,hb⟩ : ∃ b,b = decide (x < pM):=⟨_,rfl⟩
 have cb : ∀ w,Calls Tryz.prog 112 #[fv x,fv p] w fun e w' => e = .returned (.bool b) ∧ Below w.heap.size w w':=by
  intro w; rw [hb,pM_eq, ← hp]; exact below_at w x p rfl rfl hx (by omega)
 have hpc : fv p = .agg #[.int .u64 13822214165235122497,.int .u64 13451932020343611451,.int .u64 18446744073709551614,.int .u64 18446744073709551615]:=by rw [hp]; exact fv_P
 obtain ⟨x0,x1,x2,x3,fx⟩:=words_fv x hx
 have FX:=Lib.hid fx
 have FP:=Lib.hid hpc
 rw [fx, ← hb]
 unfold modV
 clear fx hpc hx hp hb
 go_enter Tryz.func53,Tryz.ntmps53
 go_wp2_with (first | ((with_reducible refine here_load (d:=some 5) ?_); refine wpList_load_fv rfl _ _ rfl (w.heap.size + 1) rfl (x) _ _ _ (blk_new2 w _ _ _) (FX.out) Tryz.underlying97 rfl (by kernel_rfl) ?_) | ((with_reducible refine here_load (d:=some 7) ?_); refine wpList_load_part rfl _ _ rfl w.heap.size rfl p [.int .u64 13822214165235122497,.int .u64 13451932020343611451,.int .u64 18446744073709551614,.int .u64 18446744073709551615] _ (mod_range ((Blk.new w _ _).alloc _)) FP.out Tryz.underlying97 rfl (by kernel_rfl) ?_))
 refine (cb _).mono ?_
 rintro e w1 ⟨rfl,k1⟩
 go_wp2
 go_ret
 exact ⟨rfl,Below.gr (below_alloc2 w _ _) k1⟩
end Sc
end
section
namespace Cu
open Go.RowKit Sy
set_option maxRecDepth 100000
set_option maxHeartbeats 4000000
def bt (j : Nat) : Nat:=9223372036854775808 / 2 ^ j
theorem bt_next (j : Nat) : bt j / 2 = bt (j + 1):=by unfold bt; rw [Nat.div_div_eq_div_mul,Nat.pow_succ]
theorem bt_le (j : Nat) : bt j < 18446744073709551616:=Nat.lt_of_le_of_lt (Nat.div_le_self _ _) (by decide)
theorem bt_is {j : Nat} (h : j < 64) : bt j = 2 ^ (63 - j):=by
 unfold bt
 rw [show (9223372036854775808 : Nat) = 2 ^ (63 - j) * 2 ^ j by rw [← Nat.pow_add,show 63 - j + j = 63 by omega],Nat.mul_div_cancel _ (Nat.two_pow_pos j)]
theorem bt_pos (j : Nat) : 0 < bt j ↔ j < 64:=by
 constructor
 ·intro h
  rcases Nat.lt_or_ge j 64 with hl | hl
  ·exact hl
  ·exfalso
   unfold bt at h
   rw [Nat.div_eq_of_lt (Nat.lt_of_lt_of_le (show 9223372036854775808 < 2 ^ 64 by decide) (Nat.pow_le_pow_right (by decide) hl))] at h
   omega
 ·intro h
  rw [bt_is h]
  exact Nat.two_pow_pos _
theorem and_bt (z j : Nat) (hj : j < 64) : (z &&& bt j ≠ 0) ↔ z / 2 ^ (63 - j) % 2 = 1:=by
 rw [bt_is hj]
 have e : z.testBit (63 - j) = decide (z / 2 ^ (63 - j) % 2 = 1):=Nat.testBit_eq_decide_div_mod_eq
 generalize 63 - j = i at e ⊢
 by_cases h : z / 2 ^ i % 2 = 1
 ·refine ⟨fun _ => h,fun _ h0 => ?_⟩
  have h1:=congrArg (fun t => t.testBit i) h0
  simp [Nat.testBit_and,Nat.testBit_two_pow_self,e,h] at h1
 ·refine ⟨fun h0 => (h0 (Nat.eq_of_testBit_eq fun k => ?_)).elim,fun h0 => (h h0).elim⟩
  rw [Nat.testBit_and,Nat.zero_testBit,Nat.testBit_two_pow]
  by_cases hk : i = k
  ·subst hk
   simp [e,h]
  ·simp [hk]
theorem exec_and (F : Slots) (o : Oper) (t : TypeId) (x y : Operand) {yt : TypeId} (z b : Nat) (hz : z < 18446744073709551616) (hb : b < 18446744073709551616) (ho : o.op = .binOp .and t x y yt) (hx : evF F x = qv z) (hy : evF F y = .int .u64 (b : Int)) (w : World) : (execOp (evF F) o).run Tryz.prog w = .ok (.value (.int .u64 ((z &&& b : Nat) : Int))) w :=
 exec_int .and t x y .u64 (z : Int) (b : Int) _ ho hx hy (int_and t .u64 _ _ _ (by
  have e : ((BitVec.ofInt IntKind.u64.bits (z : Int) &&& BitVec.ofInt IntKind.u64.bits (b : Int)).toNat) = z &&& b:=by
   show ((BitVec.ofInt 64 (z : Int) &&& BitVec.ofInt 64 (b : Int)).toNat) = _
   rw [BitVec.toNat_and,BitVec.ofInt_natCast,BitVec.ofInt_natCast,BitVec.toNat_ofNat,BitVec.toNat_ofNat,Nat.mod_eq_of_lt (by omega),Nat.mod_eq_of_lt (by omega)]
  rw [e]
  have h : z &&& b ≤ z:=Nat.and_le_left
  exact wrap_u64 (by omega) (by omega))) w
def bitJ (m : Nat) (x y : Fp) : Nat → J
 | 0 => ⟨0,0,0⟩
 | t + 1 => if m / 2 ^ (255 - t) % 2 = 1 then plusR (dblR (bitJ m x y t)) x y else dblR (bitJ m x y t)
theorem bitJ_yes {m : Nat} {x y : Fp} {t : Nat} (h : m / 2 ^ (255 - t) % 2 = 1) : bitJ m x y (t + 1) = plusR (dblR (bitJ m x y t)) x y:=if_pos h
theorem bitJ_no {m : Nat} {x y : Fp} {t : Nat} (h : ¬ m / 2 ^ (255 - t) % 2 = 1) : bitJ m x y (t + 1) = dblR (bitJ m x y t):=if_neg h
theorem bitJ_rep {m : Nat} (hm : m < 2 ^ 256) {x y : Fp} (h : y * y = x * x * x + 7) : ∀ t,t ≤ 256 → Ec.Rep (bitJ m x y t) (Ec.nm finv (m / 2 ^ (256 - t)) (some (x,y)))
 | 0,_ => by
  rw [Nat.sub_zero,Nat.div_eq_of_lt hm]
  rfl
 | t + 1,ht => by
  have hP : Ec.On (some (x,y)):=h
  have h1:=bitJ_rep hm h t (by omega)
  have hS:=hP.nm fld (m / 2 ^ (256 - t))
  have h2:=dblR_rep hS h1
  have e:=Ec.bit_step fld hP m (2 ^ (255 - t))
  rw [← Nat.pow_succ',show (255 - t).succ = 256 - t by omega] at e
  rw [show 256 - (t + 1) = 255 - t by omega, ← e]
  by_cases hb : m / 2 ^ (255 - t) % 2 = 1
  ·rw [bitJ_yes hb,hb,Ec.nm_one]
   exact plusR_rep (Ec.On.add fld hS hS) h h2
  ·rw [bitJ_no hb,show m / 2 ^ (255 - t) % 2 = 0 by omega,show Ec.nm finv 0 (some (x,y)) = none from rfl,Ec.add_zero]
   exact h2
theorem word_bit (m i j : Nat) (hj : j < 64) : m / 2 ^ (64 * i) % 18446744073709551616 / 2 ^ (63 - j) % 2 = m / 2 ^ (64 * i + (63 - j)) % 2:=by
 rw [Nat.pow_add, ← Nat.div_div_eq_div_mul,show (18446744073709551616 : Nat) = 2 ^ (63 - j) * 2 ^ (j + 1) by rw [← Nat.pow_add,show 63 - j + (j + 1) = 64 by omega],Nat.mod_mul_right_div_self,Nat.pow_succ',Nat.mod_mul_right_mod]
theorem word_bit0 (m j : Nat) (hj : j < 64) : m % 18446744073709551616 / 2 ^ (63 - j) % 2 = m / 2 ^ (64 * 0 + (63 - j)) % 2:=by
 have q:=word_bit m 0 j hj
 rw [Nat.mul_zero,Nat.pow_zero,Nat.div_one] at q
 exact q
def modN : Array Value:=#[.int .u64 13822214165235122497,.int .u64 13451932020343611451,.int .u64 18446744073709551614,.int .u64 18446744073709551615,.int .u64 4624529908474429119,.int .u64 4994812053365940164,.int .u64 1]
theorem mulRe_none (w : World) (k x y : Nat) (i : Bool) (hk : k < K4) (hx : x < K4) (hy : y < K4) (h : dec x y i = none) : Calls Tryz.prog 30 #[fv k,pv x y i] w (Gets w (ptv none)):=by
 refine Sy.enter (args:=[fv k,pv x y i]) Tryz.func30 rfl kL ?_
 refine sC ?_
 refine sM 24 (fcs k) (fun g0 => ?_)
 refine sM 71 (pcs x y i) (fun g1 => ?_)
 refine sM 71 (pcs 0 0 false) (fun g2 => ?_)
 refine sA ?_
 refine sS (pv x y i) (qL 1 g1 0 9 71 71 (pcs x y i) rfl Tryz.underlying71) <| sS (pv 0 0 true) (qF 73 #[pv x y i] (fun w => by have hrr:=taken_c w x y i hx hy; rw [h] at hrr; exact hrr)) <| sW 1 g1 71 (pcs x y i) (pcs 0 0 true) (wS 0 71 (pcs 0 0 true) rfl) ?_
 refine sG <| Sy.seq <| sC ?_
 refine sP (.pointer (some ⟨g1,8,none⟩)) <| sS (.bool true) (qC 1 g1 8 71 4 (pcs 0 0 true) rfl Tryz.underlying4) ?_
 refine sG <| sT <| sC ?_
 refine sS (pv 0 0 true) (qL 1 g1 0 9 71 71 (pcs 0 0 true) rfl Tryz.underlying71) <| sW 2 g2 71 (pcs 0 0 false) (pcs 0 0 true) (wS 0 71 (pcs 0 0 true) rfl) ?_
 refine sG <| Sy.ret <| Sy.then_ret ?_
 rw [show (ptv none : Value) = pv 0 0 true from rfl]
 exact rC (v:=pv 0 0 true) 71 g2 2 (pcs 0 0 true) rfl Tryz.underlying71
theorem mulRe_some (w : World) (k x y : Nat) (i : Bool) (hk : k < K4) (hx : x < K4) (hy : y < K4) (u v : Fp) (h : dec x y i = some (u,v)) (ho : v * v = u * u * u + 7) : Calls Tryz.prog 30 #[fv k,pv x y i] w (Gets w (ptv (Ec.nm finv (k % Sc.pM) (some (u,v))))):=by
 obtain ⟨m,hm⟩ : ∃ m,m = k % Sc.pM:=⟨_,rfl⟩
 obtain ⟨Q,hQ⟩ : ∃ Q,Q = ptJ (bitJ m u v 256):=⟨_,rfl⟩
 have hml : m < K4:=by rw [hm]; exact Sc.mod_lt k
 have hn : Ec.nm finv (k % Sc.pM) (some (u,v)) = Q:=by
  have q:=bitJ_rep (m:=m) hml ho 256 (Nat.le_refl _)
  rw [Nat.sub_self,Nat.pow_zero,Nat.div_one] at q
  rw [← hm,hQ]
  exact (ptJ_rep q).symm
 rw [hn]
 refine Sy.enter (args:=[fv k,pv x y i]) Tryz.func30 rfl kL ?_
 refine sC ?_
 refine sM 24 (fcs k) (fun g0 => ?_)
 refine sM 71 (pcs x y i) (fun g1 => ?_)
 refine sM 71 (pcs 0 0 false) (fun g2 => ?_)
 refine sA ?_
 refine sS (pv x y i) (qL 1 g1 0 9 71 71 (pcs x y i) rfl Tryz.underlying71) <| sS (pv u.val v.val false) (qF 73 #[pv x y i] (fun w => by have hrr:=taken_c w x y i hx hy; rw [h] at hrr; exact hrr)) <| sW 1 g1 71 (pcs x y i) (pcs u.val v.val false) (wS 0 71 (pcs u.val v.val false) rfl) ?_
 refine sG <| Sy.seq <| sC ?_
 refine sP (.pointer (some ⟨g1,8,none⟩)) <| sS (.bool false) (qC 1 g1 8 71 4 (pcs u.val v.val false) rfl Tryz.underlying4) ?_
 refine sG <| sU <| Sy.skip ?_
 refine sR (fun j => j == 5) ?_
 refine sD 0 rfl (.agg modN) (qF 75 #[] (Sc.refN_any)) <| sD 1 rfl (fv k) (qL 0 g0 0 4 24 24 (fcs k) rfl Tryz.underlying24) <| sD 2 rfl (fv k) (qF 76 #[fv k] (fun w => Sc.refOf_any w k lK)) <| sD 3 rfl (fv m) (qF 74 #[.agg modN,fv k] (fun w => by rw [hm]; exact Sc.normR_any w k hk)) ?_
 refine sO 4 rfl 97 (fcs 0) (fun g3 => ?_)
 refine sX 5 rfl 3 g3 97 (fcs 0) (fcs m) (wS 0 97 (fcs m) rfl) ?_
 refine sE ?_
 refine sB ?_
 refine sP (.pointer (some ⟨g1,0,none⟩)) <| sS (fv u.val) (qL 1 g1 0 4 71 69 (pcs u.val v.val false) rfl Tryz.underlying69) <| sS (fv u.val) (qF 77 #[fv u.val] (fun w => refOf_any w u.val lK)) ?_
 refine sM 97 (fcs 0) (fun g4 => ?_)
 refine sW 4 g4 97 (fcs 0) (fcs u.val) (wS 0 97 (fcs u.val) rfl) ?_
 refine sA ?_
 refine sP (.pointer (some ⟨g1,4,none⟩)) <| sS (fv v.val) (qL 1 g1 4 4 71 69 (pcs u.val v.val false) rfl Tryz.underlying69) <| sS (fv v.val) (qF 77 #[fv v.val] (fun w => refOf_any w v.val lK)) ?_
 refine sM 97 (fcs 0) (fun g5 => ?_)
 refine sW 5 g5 97 (fcs 0) (fcs v.val) (wS 0 97 (fcs v.val) rfl) ?_
 refine sA ?_
 refine sP (tv 0 0 0) ?_
 refine sM 126 (tcs 0 0 0) (fun g6 => ?_)
 refine sW 6 g6 126 (tcs 0 0 0) (tcs 0 0 0) (wS 0 126 (tcs 0 0 0) rfl) ?_
 refine sG <| Sy.seq <| sC ?_
 refine sP (.int .i64 3) ?_
 refine sG <| Sy.block ?_
 refine Sy.loopN 5 ?_
 refine Sy.tidyR (G:=[(4,.pointer (some ⟨g2,0,none⟩)),(5,.pointer (some ⟨g3,0,none⟩)),(6,.pointer (some ⟨g4,0,none⟩)),(7,.pointer (some ⟨g5,0,none⟩)),(8,.pointer (some ⟨g6,0,none⟩)),(9,.int .i64 3)]) (M:=[(g2,71,(pcs 0 0 false)),(g3,97,(fcs m)),(g4,97,(fcs u.val)),(g5,97,(fcs v.val)),(g6,126,(tcs 0 0 0))]) [false,false,true,true,true,true,true] kR (all_cons kR (all_cons kR (all_cons kR (all_cons kR (all_cons kR (all_cons kR all_nil)))))) ?_
 refine Sy.round <| Sy.seq <| sC ?_
 refine sP (.int .i64 3) <| sP (.bool true) ?_
 refine sG <| sT <| Sy.skip <| Sy.then_ <| Sy.seq <| Sy.block <| sC ?_
 refine sP (.int .u64 9223372036854775808) ?_
 refine sG <| Sy.block ?_
 refine Sy.loopK 64 (fun k2x0 => [(4,.pointer (some ⟨g2,0,none⟩)),(5,.pointer (some ⟨g3,0,none⟩)),(6,.pointer (some ⟨g4,0,none⟩)),(7,.pointer (some ⟨g5,0,none⟩)),(8,.pointer (some ⟨g6,0,none⟩)),(9,.int .i64 3),(10,.int .u64 ((bt k2x0 : Nat) : Int))]) (fun k2x0 => [(g2,71,(pcs 0 0 false)),(g3,97,(fcs m)),(g4,97,(fcs u.val)),(g5,97,(fcs v.val)),(g6,126,(tcs ((bitJ m u v (0 + k2x0)).x.val) ((bitJ m u v (0 + k2x0)).y.val) ((bitJ m u v (0 + k2x0)).z.val)))]) [true,true,true,true,true] (M:=[(g2,71,(pcs 0 0 false)),(g3,97,(fcs m)),(g4,97,(fcs u.val)),(g5,97,(fcs v.val)),(g6,126,(tcs 0 0 0))]) (all_cons kR (all_cons kR (all_cons kR (all_cons kR (all_cons kR (all_cons kR (all_cons kR all_nil))))))) kR (bcons rfl (bcons rfl (bcons rfl (bcons rfl (bcons rfl rfl))))) (fun k2x0 hk2x0 => ?_)
 refine Sy.seq <| sC ?_
 refine sP (.int .u64 ((bt k2x0 : Nat) : Int)) ?_
 obtain ⟨b1,hb1⟩ : ∃ z : Bool,z = decide (k2x0 < 64):=⟨_,rfl⟩
 refine sS (.bool b1) (Quiet.pure (exec_int .gtr _ _ _ .u64 _ _ _ rfl rfl rfl (int_gtr _ _ _ _ _ (by rw [hb1]; exact decide_eq_decide.2 (by rw [← bt_pos]; omega))))) ?_
 refine sG ?_
 cases b1
 ·have lb1 : ¬ (k2x0 < 64):=of_decide_eq_false hb1.symm
  refine sU <| Sy.exit <| Sy.then_exit <| Sy.then_exit ?_
  obtain rfl : k2x0 = 64:=by omega
  refine Sy.in_exit <| Sy.in_ <| Sy.then_ <| Sy.region ?_
  refine sP (.int .i64 3) <| sP (.int .i64 2) <| sP (.int .i64 2) ?_
  refine Sy.nil <| Sy.again ?_
  refine Sy.tidyR (G:=[(4,.pointer (some ⟨g2,0,none⟩)),(5,.pointer (some ⟨g3,0,none⟩)),(6,.pointer (some ⟨g4,0,none⟩)),(7,.pointer (some ⟨g5,0,none⟩)),(8,.pointer (some ⟨g6,0,none⟩)),(9,.int .i64 2)]) (M:=[(g2,71,(pcs 0 0 false)),(g3,97,(fcs m)),(g4,97,(fcs u.val)),(g5,97,(fcs v.val)),(g6,126,(tcs ((bitJ m u v (0 + 64)).x.val) ((bitJ m u v (0 + 64)).y.val) ((bitJ m u v (0 + 64)).z.val)))]) [true,true,true,true,true] kR (all_cons kR (all_cons kR (all_cons kR (all_cons kR (all_cons kR (all_cons kR all_nil)))))) ?_
  refine Sy.round <| Sy.seq <| sC ?_
  refine sP (.int .i64 2) <| sP (.bool true) ?_
  refine sG <| sT <| Sy.skip <| Sy.then_ <| Sy.seq <| Sy.block <| sC ?_
  refine sP (.int .u64 9223372036854775808) ?_
  refine sG <| Sy.block ?_
  refine Sy.loopK 64 (fun k2x1 => [(4,.pointer (some ⟨g2,0,none⟩)),(5,.pointer (some ⟨g3,0,none⟩)),(6,.pointer (some ⟨g4,0,none⟩)),(7,.pointer (some ⟨g5,0,none⟩)),(8,.pointer (some ⟨g6,0,none⟩)),(9,.int .i64 2),(10,.int .u64 ((bt k2x1 : Nat) : Int))]) (fun k2x1 => [(g2,71,(pcs 0 0 false)),(g3,97,(fcs m)),(g4,97,(fcs u.val)),(g5,97,(fcs v.val)),(g6,126,(tcs ((bitJ m u v (64 + k2x1)).x.val) ((bitJ m u v (64 + k2x1)).y.val) ((bitJ m u v (64 + k2x1)).z.val)))]) [true,true,true,true,true] (M:=[(g2,71,(pcs 0 0 false)),(g3,97,(fcs m)),(g4,97,(fcs u.val)),(g5,97,(fcs v.val)),(g6,126,(tcs ((bitJ m u v (0 + 64)).x.val) ((bitJ m u v (0 + 64)).y.val) ((bitJ m u v (0 + 64)).z.val)))]) (all_cons kR (all_cons kR (all_cons kR (all_cons kR (all_cons kR (all_cons kR (all_cons kR all_nil))))))) kR (bcons rfl (bcons rfl (bcons rfl (bcons rfl (bcons rfl rfl))))) (fun k2x1 hk2x1 => ?_)
  refine Sy.seq <| sC ?_
  refine sP (.int .u64 ((bt k2x1 : Nat) : Int)) ?_
  obtain ⟨b2,hb2⟩ : ∃ z : Bool,z = decide (k2x1 < 64):=⟨_,rfl⟩
  refine sS (.bool b2) (Quiet.pure (exec_int .gtr _ _ _ .u64 _ _ _ rfl rfl rfl (int_gtr _ _ _ _ _ (by rw [hb2]; exact decide_eq_decide.2 (by rw [← bt_pos]; omega))))) ?_
  refine sG ?_
  cases b2
  ·have lb2 : ¬ (k2x1 < 64):=of_decide_eq_false hb2.symm
   refine sU <| Sy.exit <| Sy.then_exit <| Sy.then_exit ?_
   obtain rfl : k2x1 = 64:=by omega
   refine Sy.in_exit <| Sy.in_ <| Sy.then_ <| Sy.region ?_
   refine sP (.int .i64 2) <| sP (.int .i64 1) <| sP (.int .i64 1) ?_
   refine Sy.nil <| Sy.again ?_
   refine Sy.tidyR (G:=[(4,.pointer (some ⟨g2,0,none⟩)),(5,.pointer (some ⟨g3,0,none⟩)),(6,.pointer (some ⟨g4,0,none⟩)),(7,.pointer (some ⟨g5,0,none⟩)),(8,.pointer (some ⟨g6,0,none⟩)),(9,.int .i64 1)]) (M:=[(g2,71,(pcs 0 0 false)),(g3,97,(fcs m)),(g4,97,(fcs u.val)),(g5,97,(fcs v.val)),(g6,126,(tcs ((bitJ m u v (64 + 64)).x.val) ((bitJ m u v (64 + 64)).y.val) ((bitJ m u v (64 + 64)).z.val)))]) [true,true,true,true,true] kR (all_cons kR (all_cons kR (all_cons kR (all_cons kR (all_cons kR (all_cons kR all_nil)))))) ?_
   refine Sy.round <| Sy.seq <| sC ?_
   refine sP (.int .i64 1) <| sP (.bool true) ?_
   refine sG <| sT <| Sy.skip <| Sy.then_ <| Sy.seq <| Sy.block <| sC ?_
   refine sP (.int .u64 9223372036854775808) ?_
   refine sG <| Sy.block ?_
   refine Sy.loopK 64 (fun k2x2 => [(4,.pointer (some ⟨g2,0,none⟩)),(5,.pointer (some ⟨g3,0,none⟩)),(6,.pointer (some ⟨g4,0,none⟩)),(7,.pointer (some ⟨g5,0,none⟩)),(8,.pointer (some ⟨g6,0,none⟩)),(9,.int .i64 1),(10,.int .u64 ((bt k2x2 : Nat) : Int))]) (fun k2x2 => [(g2,71,(pcs 0 0 false)),(g3,97,(fcs m)),(g4,97,(fcs u.val)),(g5,97,(fcs v.val)),(g6,126,(tcs ((bitJ m u v (128 + k2x2)).x.val) ((bitJ m u v (128 + k2x2)).y.val) ((bitJ m u v (128 + k2x2)).z.val)))]) [true,true,true,true,true] (M:=[(g2,71,(pcs 0 0 false)),(g3,97,(fcs m)),(g4,97,(fcs u.val)),(g5,97,(fcs v.val)),(g6,126,(tcs ((bitJ m u v (64 + 64)).x.val) ((bitJ m u v (64 + 64)).y.val) ((bitJ m u v (64 + 64)).z.val)))]) (all_cons kR (all_cons kR (all_cons kR (all_cons kR (all_cons kR (all_cons kR (all_cons kR all_nil))))))) kR (bcons rfl (bcons rfl (bcons rfl (bcons rfl (bcons rfl rfl))))) (fun k2x2 hk2x2 => ?_)
   refine Sy.seq <| sC ?_
   refine sP (.int .u64 ((bt k2x2 : Nat) : Int)) ?_
   obtain ⟨b3,hb3⟩ : ∃ z : Bool,z = decide (k2x2 < 64):=⟨_,rfl⟩
   refine sS (.bool b3) (Quiet.pure (exec_int .gtr _ _ _ .u64 _ _ _ rfl rfl rfl (int_gtr _ _ _ _ _ (by rw [hb3]; exact decide_eq_decide.2 (by rw [← bt_pos]; omega))))) ?_
   refine sG ?_
   cases b3
   ·have lb3 : ¬ (k2x2 < 64):=of_decide_eq_false hb3.symm
    refine sU <| Sy.exit <| Sy.then_exit <| Sy.then_exit ?_
    obtain rfl : k2x2 = 64:=by omega
    refine Sy.in_exit <| Sy.in_ <| Sy.then_ <| Sy.region ?_
    refine sP (.int .i64 1) <| sP (.int .i64 0) <| sP (.int .i64 0) ?_
    refine Sy.nil <| Sy.again ?_
    refine Sy.tidyR (G:=[(4,.pointer (some ⟨g2,0,none⟩)),(5,.pointer (some ⟨g3,0,none⟩)),(6,.pointer (some ⟨g4,0,none⟩)),(7,.pointer (some ⟨g5,0,none⟩)),(8,.pointer (some ⟨g6,0,none⟩)),(9,.int .i64 0)]) (M:=[(g2,71,(pcs 0 0 false)),(g3,97,(fcs m)),(g4,97,(fcs u.val)),(g5,97,(fcs v.val)),(g6,126,(tcs ((bitJ m u v (128 + 64)).x.val) ((bitJ m u v (128 + 64)).y.val) ((bitJ m u v (128 + 64)).z.val)))]) [true,true,true,true,true] kR (all_cons kR (all_cons kR (all_cons kR (all_cons kR (all_cons kR (all_cons kR all_nil)))))) ?_
    refine Sy.round <| Sy.seq <| sC ?_
    refine sP (.int .i64 0) <| sP (.bool true) ?_
    refine sG <| sT <| Sy.skip <| Sy.then_ <| Sy.seq <| Sy.block <| sC ?_
    refine sP (.int .u64 9223372036854775808) ?_
    refine sG <| Sy.block ?_
    refine Sy.loopK 64 (fun k2x3 => [(4,.pointer (some ⟨g2,0,none⟩)),(5,.pointer (some ⟨g3,0,none⟩)),(6,.pointer (some ⟨g4,0,none⟩)),(7,.pointer (some ⟨g5,0,none⟩)),(8,.pointer (some ⟨g6,0,none⟩)),(9,.int .i64 0),(10,.int .u64 ((bt k2x3 : Nat) : Int))]) (fun k2x3 => [(g2,71,(pcs 0 0 false)),(g3,97,(fcs m)),(g4,97,(fcs u.val)),(g5,97,(fcs v.val)),(g6,126,(tcs ((bitJ m u v (192 + k2x3)).x.val) ((bitJ m u v (192 + k2x3)).y.val) ((bitJ m u v (192 + k2x3)).z.val)))]) [true,true,true,true,true] (M:=[(g2,71,(pcs 0 0 false)),(g3,97,(fcs m)),(g4,97,(fcs u.val)),(g5,97,(fcs v.val)),(g6,126,(tcs ((bitJ m u v (128 + 64)).x.val) ((bitJ m u v (128 + 64)).y.val) ((bitJ m u v (128 + 64)).z.val)))]) (all_cons kR (all_cons kR (all_cons kR (all_cons kR (all_cons kR (all_cons kR (all_cons kR all_nil))))))) kR (bcons rfl (bcons rfl (bcons rfl (bcons rfl (bcons rfl rfl))))) (fun k2x3 hk2x3 => ?_)
    refine Sy.seq <| sC ?_
    refine sP (.int .u64 ((bt k2x3 : Nat) : Int)) ?_
    obtain ⟨b4,hb4⟩ : ∃ z : Bool,z = decide (k2x3 < 64):=⟨_,rfl⟩
    refine sS (.bool b4) (Quiet.pure (exec_int .gtr _ _ _ .u64 _ _ _ rfl rfl rfl (int_gtr _ _ _ _ _ (by rw [hb4]; exact decide_eq_decide.2 (by rw [← bt_pos]; omega))))) ?_
    refine sG ?_
    cases b4
    ·have lb4 : ¬ (k2x3 < 64):=of_decide_eq_false hb4.symm
     refine sU <| Sy.exit <| Sy.then_exit <| Sy.then_exit ?_
     obtain rfl : k2x3 = 64:=by omega
     refine Sy.in_exit <| Sy.in_ <| Sy.then_ <| Sy.region ?_
     refine sP (.int .i64 0) <| sP (.int .i64 (-1)) <| sP (.int .i64 (-1)) ?_
     refine Sy.nil <| Sy.again ?_
     refine Sy.tidyR (G:=[(4,.pointer (some ⟨g2,0,none⟩)),(5,.pointer (some ⟨g3,0,none⟩)),(6,.pointer (some ⟨g4,0,none⟩)),(7,.pointer (some ⟨g5,0,none⟩)),(8,.pointer (some ⟨g6,0,none⟩)),(9,.int .i64 (-1))]) (M:=[(g2,71,(pcs 0 0 false)),(g3,97,(fcs m)),(g4,97,(fcs u.val)),(g5,97,(fcs v.val)),(g6,126,(tcs ((bitJ m u v (192 + 64)).x.val) ((bitJ m u v (192 + 64)).y.val) ((bitJ m u v (192 + 64)).z.val)))]) [true,true,true,true,true] kR (all_cons kR (all_cons kR (all_cons kR (all_cons kR (all_cons kR (all_cons kR all_nil)))))) ?_
     refine Sy.round <| Sy.seq <| sC ?_
     refine sP (.int .i64 (-1)) <| sP (.bool false) ?_
     refine sG <| sU <| Sy.exit <| Sy.then_exit <| Sy.then_exit <| Sy.in_exit <| Sy.then_ <| Sy.seq <| sC ?_
     refine sP (.pointer (some ⟨g6,8,none⟩)) <| sS (fv ((bitJ m u v (192 + 64)).z.val)) (qL 4 g6 8 4 126 97 (tcs ((bitJ m u v (192 + 64)).x.val) ((bitJ m u v (192 + 64)).y.val) ((bitJ m u v (192 + 64)).z.val)) rfl Tryz.underlying97) <| sP (fv 0) ?_
     obtain ⟨b5,hb5⟩ : ∃ z : Bool,z = decide ((bitJ m u v (192 + 64)).z.val = 0):=⟨_,rfl⟩
     refine sS (.bool b5) (Quiet.pure (fun w => by rw [hb5]; exact eql_num w _ _ _ _ _ _ rfl rfl rfl lK lK)) ?_
     refine sG ?_
     cases b5
     ·have eb5 : (bitJ m u v (192 + 64)).z ≠ (0 : Fp):=fun e => of_decide_eq_false hb5.symm (congrArg Fin.val e)
      refine sU <| Sy.skip ?_
      refine sR (fun j => j == 5) ?_
      refine sD 0 rfl (.agg modcs) (qF 54 #[] (refP_any)) <| sZ 1 rfl (.pointer (some ⟨g6,8,none⟩)) <| sD 2 rfl (fv ((bitJ m u v (192 + 64)).z.val)) (qL 4 g6 8 4 126 97 (tcs ((bitJ m u v (192 + 64)).x.val) ((bitJ m u v (192 + 64)).y.val) ((bitJ m u v (192 + 64)).z.val)) rfl Tryz.underlying97) ?_
      obtain ⟨z1,hz1⟩ : ∃ z : Fp,z = finv (bitJ m u v (192 + 64)).z:=⟨_,rfl⟩
      refine sD 3 rfl (fv z1.val) (qF 81 #[.agg modcs,fv ((bitJ m u v (192 + 64)).z.val)] (fun w => by rw [hz1]; exact refinv_c w (bitJ m u v (192 + 64)).z)) ?_
      refine sO 4 rfl 97 (fcs 0) (fun g7 => ?_)
      refine sX 5 rfl 5 g7 97 (fcs 0) (fcs z1.val) (wS 0 97 (fcs z1.val) rfl) ?_
      refine sE ?_
      refine sB ?_
      refine sS (fv z1.val) (qL 5 g7 0 4 97 97 (fcs z1.val) rfl Tryz.underlying97) <| sS (fv z1.val) (qL 5 g7 0 4 97 97 (fcs z1.val) rfl Tryz.underlying97) ?_
      obtain ⟨z2,hz2⟩ : ∃ z : Fp,z = z1 * z1:=⟨_,rfl⟩
      refine sS (fv z2.val) (qF 82 #[fv z1.val,fv z1.val] (fun w => by rw [hz2]; exact mulR_c w z1 z1)) ?_
      refine sM 97 (fcs 0) (fun g8 => ?_)
      refine sW 6 g8 97 (fcs 0) (fcs z2.val) (wS 0 97 (fcs z2.val) rfl) ?_
      refine sH (fun j => j == 11) ?_
      refine sZ 0 rfl (.pointer (some ⟨g6,0,none⟩)) <| sD 1 rfl (fv ((bitJ m u v (192 + 64)).x.val)) (qL 4 g6 0 4 126 97 (tcs ((bitJ m u v (192 + 64)).x.val) ((bitJ m u v (192 + 64)).y.val) ((bitJ m u v (192 + 64)).z.val)) rfl Tryz.underlying97) <| sD 2 rfl (fv z2.val) (qL 6 g8 0 4 97 97 (fcs z2.val) rfl Tryz.underlying97) ?_
      obtain ⟨z3,hz3⟩ : ∃ z : Fp,z = (bitJ m u v (192 + 64)).x * z2:=⟨_,rfl⟩
      refine sD 3 rfl (fv z3.val) (qF 82 #[fv ((bitJ m u v (192 + 64)).x.val),fv z2.val] (fun w => by rw [hz3]; exact mulR_c w (bitJ m u v (192 + 64)).x z2)) <| sZ 4 rfl (.pointer (some ⟨g6,4,none⟩)) <| sD 5 rfl (fv ((bitJ m u v (192 + 64)).y.val)) (qL 4 g6 4 4 126 97 (tcs ((bitJ m u v (192 + 64)).x.val) ((bitJ m u v (192 + 64)).y.val) ((bitJ m u v (192 + 64)).z.val)) rfl Tryz.underlying97) <| sD 6 rfl (fv z2.val) (qL 6 g8 0 4 97 97 (fcs z2.val) rfl Tryz.underlying97) <| sD 7 rfl (fv z1.val) (qL 5 g7 0 4 97 97 (fcs z1.val) rfl Tryz.underlying97) ?_
      obtain ⟨z4,hz4⟩ : ∃ z : Fp,z = z2 * z1:=⟨_,rfl⟩
      refine sD 8 rfl (fv z4.val) (qF 82 #[fv z2.val,fv z1.val] (fun w => by rw [hz4]; exact mulR_c w z2 z1)) ?_
      obtain ⟨z5,hz5⟩ : ∃ z : Fp,z = (bitJ m u v (192 + 64)).y * z4:=⟨_,rfl⟩
      refine sD 9 rfl (fv z5.val) (qF 82 #[fv ((bitJ m u v (192 + 64)).y.val),fv z4.val] (fun w => by rw [hz5]; exact mulR_c w (bitJ m u v (192 + 64)).y z4)) <| sD 10 rfl (pv z3.val z5.val false) (qF 83 #[fv z3.val,fv z5.val] (fun w => pointR_c w z3.val z5.val lK lK)) <| sX 11 rfl 0 g2 71 (pcs 0 0 false) (pcs z3.val z5.val false) (wS 0 71 (pcs z3.val z5.val false) rfl) ?_
      refine sI ?_
      refine Sy.ret ?_
      rw [show (ptv Q : Value) = pv z3.val z5.val false from by rw [hQ]; unfold ptJ; rw [if_neg eb5]; unfold ptv; simp only [hz5,hz4,hz3,hz2,hz1]]
      exact rC (v:=pv z3.val z5.val false) 71 g2 0 (pcs z3.val z5.val false) rfl Tryz.underlying71
     ·have eb5 : (bitJ m u v (192 + 64)).z = (0 : Fp):=Fin.ext (of_decide_eq_true hb5.symm)
      refine sT <| sC ?_
      refine sS (pv 0 0 true) (qF 80 #[] (zeroR_c)) <| sW 0 g2 71 (pcs 0 0 false) (pcs 0 0 true) (wS 0 71 (pcs 0 0 true) rfl) ?_
      refine sG <| Sy.ret <| Sy.then_ret ?_
      rw [show (ptv Q : Value) = pv 0 0 true from by rw [hQ]; unfold ptJ; rw [if_pos eb5]; rfl]
      exact rC (v:=pv 0 0 true) 71 g2 0 (pcs 0 0 true) rfl Tryz.underlying71
    ·have lb4 : k2x3 < 64:=of_decide_eq_true hb4.symm
     refine sT <| Sy.skip <| Sy.then_ <| Sy.seq <| Sy.block <| sC ?_
     refine sS (tv ((bitJ m u v (192 + k2x3)).x.val) ((bitJ m u v (192 + k2x3)).y.val) ((bitJ m u v (192 + k2x3)).z.val)) (qL 4 g6 0 12 126 126 (tcs ((bitJ m u v (192 + k2x3)).x.val) ((bitJ m u v (192 + k2x3)).y.val) ((bitJ m u v (192 + k2x3)).z.val)) rfl Tryz.underlying126) ?_
     obtain ⟨j1,hj1⟩ : ∃ z : J,z = dblR (bitJ m u v (192 + k2x3)):=⟨_,rfl⟩
     refine sS (tv j1.x.val j1.y.val j1.z.val) (qF 78 #[tv ((bitJ m u v (192 + k2x3)).x.val) ((bitJ m u v (192 + k2x3)).y.val) ((bitJ m u v (192 + k2x3)).z.val)] (fun w => by rw [hj1]; exact twiceR_c w (bitJ m u v (192 + k2x3)))) <| sW 4 g6 126 (tcs ((bitJ m u v (192 + k2x3)).x.val) ((bitJ m u v (192 + k2x3)).y.val) ((bitJ m u v (192 + k2x3)).z.val)) (tcs j1.x.val j1.y.val j1.z.val) (wS 0 126 (tcs j1.x.val j1.y.val j1.z.val) rfl) ?_
     refine sA ?_
     refine sP (.int .i64 0) <| sP (.pointer (some ⟨g3,0,none⟩)) <| sS (qv (m % 18446744073709551616)) (qC 1 g3 0 97 22 (fcs m) rfl Tryz.underlying22) <| sP (.int .u64 ((bt k2x3 : Nat) : Int)) <| sS (.int .u64 (((m % 18446744073709551616) &&& bt k2x3 : Nat) : Int)) (Quiet.pure (exec_and _ _ _ _ _ (m % 18446744073709551616) (bt k2x3) (Nat.mod_lt _ (by decide)) (bt_le _) rfl rfl rfl)) ?_
     obtain ⟨b6,hb6⟩ : ∃ z : Bool,z = decide ((m % 18446744073709551616) &&& bt k2x3 ≠ 0):=⟨_,rfl⟩
     refine sS (.bool b6) (Quiet.pure (exec_int .neq _ _ _ .u64 _ _ _ rfl rfl rfl (int_neq _ _ _ _ _ (by rw [hb6]; exact decide_eq_decide.2 (by omega))))) ?_
     refine sG ?_
     cases b6
     ·have lb6 : ¬ ((m % 18446744073709551616) &&& bt k2x3 ≠ 0):=of_decide_eq_false hb6.symm
      have fb6 : ¬ m / 2 ^ (255 - (192 + k2x3)) % 2 = 1:=by
       have q:=and_bt (m % 18446744073709551616) k2x3 (by omega)
       have q2:=word_bit0 m k2x3 (by omega)
       rw [show 64 * 0 + (63 - k2x3) = 255 - (192 + k2x3) by omega] at q2
       rw [← q2]
       exact fun t => lb6 (q.2 t)
      refine sU <| Sy.skip <| Sy.in_ <| Sy.then_ <| Sy.region ?_
      refine sP (.int .u64 ((bt k2x3 : Nat) : Int)) <| sS (.int .u64 ((bt (k2x3 + 1) : Nat) : Int)) (Quiet.pure (exec_int .quo _ _ _ .u64 _ _ _ rfl rfl rfl (int_quo _ _ _ _ _ (by decide) (by rw [← bt_next]; have:=bt_le k2x3; rw [show ((bt k2x3 : Nat) : Int).tdiv 2 = ((bt k2x3 / 2 : Nat) : Int) from rfl]; exact wrap_u64 (by omega) (by omega))))) <| sP (.int .u64 ((bt (k2x3 + 1) : Nat) : Int)) ?_
      refine Sy.nil ?_
      exact Sy.againK [true,true,true,true,true] (M:=[(g2,71,(pcs 0 0 false)),(g3,97,(fcs m)),(g4,97,(fcs u.val)),(g5,97,(fcs v.val)),(g6,126,(tcs j1.x.val j1.y.val j1.z.val))]) (by omega) (all_cons kR (all_cons kR (all_cons kR (all_cons kR (all_cons kR (all_cons kR (all_cons kR all_nil))))))) kR (bcons rfl (bcons rfl (bcons rfl (bcons rfl (bcons (beq (by rw [hj1, ← bitJ_no fb6]; rfl)) rfl)))))
     ·have lb6 : (m % 18446744073709551616) &&& bt k2x3 ≠ 0:=of_decide_eq_true hb6.symm
      have fb6 :  m / 2 ^ (255 - (192 + k2x3)) % 2 = 1:=by
       have q:=and_bt (m % 18446744073709551616) k2x3 (by omega)
       have q2:=word_bit0 m k2x3 (by omega)
       rw [show 64 * 0 + (63 - k2x3) = 255 - (192 + k2x3) by omega] at q2
       rw [← q2]
       exact q.1 lb6
      refine sT <| Sy.region ?_
      refine sS (tv j1.x.val j1.y.val j1.z.val) (qL 4 g6 0 12 126 126 (tcs j1.x.val j1.y.val j1.z.val) rfl Tryz.underlying126) <| sS (fv u.val) (qL 2 g4 0 4 97 97 (fcs u.val) rfl Tryz.underlying97) <| sS (fv v.val) (qL 3 g5 0 4 97 97 (fcs v.val) rfl Tryz.underlying97) ?_
      obtain ⟨j2,hj2⟩ : ∃ z : J,z = plusR j1 u v:=⟨_,rfl⟩
      refine sS (tv j2.x.val j2.y.val j2.z.val) (qF 79 #[tv j1.x.val j1.y.val j1.z.val,fv u.val,fv v.val] (fun w => by rw [hj2]; exact plusR_c w j1 u v)) <| sW 4 g6 126 (tcs j1.x.val j1.y.val j1.z.val) (tcs j2.x.val j2.y.val j2.z.val) (wS 0 126 (tcs j2.x.val j2.y.val j2.z.val) rfl) ?_
      refine Sy.nil <| Sy.in_ <| Sy.then_ <| Sy.region ?_
      refine sP (.int .u64 ((bt k2x3 : Nat) : Int)) <| sS (.int .u64 ((bt (k2x3 + 1) : Nat) : Int)) (Quiet.pure (exec_int .quo _ _ _ .u64 _ _ _ rfl rfl rfl (int_quo _ _ _ _ _ (by decide) (by rw [← bt_next]; have:=bt_le k2x3; rw [show ((bt k2x3 : Nat) : Int).tdiv 2 = ((bt k2x3 / 2 : Nat) : Int) from rfl]; exact wrap_u64 (by omega) (by omega))))) <| sP (.int .u64 ((bt (k2x3 + 1) : Nat) : Int)) ?_
      refine Sy.nil ?_
      exact Sy.againK [true,true,true,true,true] (M:=[(g2,71,(pcs 0 0 false)),(g3,97,(fcs m)),(g4,97,(fcs u.val)),(g5,97,(fcs v.val)),(g6,126,(tcs j2.x.val j2.y.val j2.z.val))]) (by omega) (all_cons kR (all_cons kR (all_cons kR (all_cons kR (all_cons kR (all_cons kR (all_cons kR all_nil))))))) kR (bcons rfl (bcons rfl (bcons rfl (bcons rfl (bcons (beq (by rw [hj2,hj1, ← bitJ_yes fb6]; rfl)) rfl)))))
   ·have lb3 : k2x2 < 64:=of_decide_eq_true hb3.symm
    refine sT <| Sy.skip <| Sy.then_ <| Sy.seq <| Sy.block <| sC ?_
    refine sS (tv ((bitJ m u v (128 + k2x2)).x.val) ((bitJ m u v (128 + k2x2)).y.val) ((bitJ m u v (128 + k2x2)).z.val)) (qL 4 g6 0 12 126 126 (tcs ((bitJ m u v (128 + k2x2)).x.val) ((bitJ m u v (128 + k2x2)).y.val) ((bitJ m u v (128 + k2x2)).z.val)) rfl Tryz.underlying126) ?_
    obtain ⟨j3,hj3⟩ : ∃ z : J,z = dblR (bitJ m u v (128 + k2x2)):=⟨_,rfl⟩
    refine sS (tv j3.x.val j3.y.val j3.z.val) (qF 78 #[tv ((bitJ m u v (128 + k2x2)).x.val) ((bitJ m u v (128 + k2x2)).y.val) ((bitJ m u v (128 + k2x2)).z.val)] (fun w => by rw [hj3]; exact twiceR_c w (bitJ m u v (128 + k2x2)))) <| sW 4 g6 126 (tcs ((bitJ m u v (128 + k2x2)).x.val) ((bitJ m u v (128 + k2x2)).y.val) ((bitJ m u v (128 + k2x2)).z.val)) (tcs j3.x.val j3.y.val j3.z.val) (wS 0 126 (tcs j3.x.val j3.y.val j3.z.val) rfl) ?_
    refine sA ?_
    refine sP (.int .i64 1) <| sP (.pointer (some ⟨g3,1,none⟩)) <| sS (qv (m / 18446744073709551616 % 18446744073709551616)) (qC 1 g3 1 97 22 (fcs m) rfl Tryz.underlying22) <| sP (.int .u64 ((bt k2x2 : Nat) : Int)) <| sS (.int .u64 (((m / 18446744073709551616 % 18446744073709551616) &&& bt k2x2 : Nat) : Int)) (Quiet.pure (exec_and _ _ _ _ _ (m / 18446744073709551616 % 18446744073709551616) (bt k2x2) (Nat.mod_lt _ (by decide)) (bt_le _) rfl rfl rfl)) ?_
    obtain ⟨b7,hb7⟩ : ∃ z : Bool,z = decide ((m / 18446744073709551616 % 18446744073709551616) &&& bt k2x2 ≠ 0):=⟨_,rfl⟩
    refine sS (.bool b7) (Quiet.pure (exec_int .neq _ _ _ .u64 _ _ _ rfl rfl rfl (int_neq _ _ _ _ _ (by rw [hb7]; exact decide_eq_decide.2 (by omega))))) ?_
    refine sG ?_
    cases b7
    ·have lb7 : ¬ ((m / 18446744073709551616 % 18446744073709551616) &&& bt k2x2 ≠ 0):=of_decide_eq_false hb7.symm
     have fb7 : ¬ m / 2 ^ (255 - (128 + k2x2)) % 2 = 1:=by
      have q:=and_bt (m / 18446744073709551616 % 18446744073709551616) k2x2 (by omega)
      have q2:=word_bit m 1 k2x2 (by omega)
      rw [show 64 * 1 + (63 - k2x2) = 255 - (128 + k2x2) by omega] at q2
      rw [← q2]
      exact fun t => lb7 (q.2 t)
     refine sU <| Sy.skip <| Sy.in_ <| Sy.then_ <| Sy.region ?_
     refine sP (.int .u64 ((bt k2x2 : Nat) : Int)) <| sS (.int .u64 ((bt (k2x2 + 1) : Nat) : Int)) (Quiet.pure (exec_int .quo _ _ _ .u64 _ _ _ rfl rfl rfl (int_quo _ _ _ _ _ (by decide) (by rw [← bt_next]; have:=bt_le k2x2; rw [show ((bt k2x2 : Nat) : Int).tdiv 2 = ((bt k2x2 / 2 : Nat) : Int) from rfl]; exact wrap_u64 (by omega) (by omega))))) <| sP (.int .u64 ((bt (k2x2 + 1) : Nat) : Int)) ?_
     refine Sy.nil ?_
     exact Sy.againK [true,true,true,true,true] (M:=[(g2,71,(pcs 0 0 false)),(g3,97,(fcs m)),(g4,97,(fcs u.val)),(g5,97,(fcs v.val)),(g6,126,(tcs j3.x.val j3.y.val j3.z.val))]) (by omega) (all_cons kR (all_cons kR (all_cons kR (all_cons kR (all_cons kR (all_cons kR (all_cons kR all_nil))))))) kR (bcons rfl (bcons rfl (bcons rfl (bcons rfl (bcons (beq (by rw [hj3, ← bitJ_no fb7]; rfl)) rfl)))))
    ·have lb7 : (m / 18446744073709551616 % 18446744073709551616) &&& bt k2x2 ≠ 0:=of_decide_eq_true hb7.symm
     have fb7 :  m / 2 ^ (255 - (128 + k2x2)) % 2 = 1:=by
      have q:=and_bt (m / 18446744073709551616 % 18446744073709551616) k2x2 (by omega)
      have q2:=word_bit m 1 k2x2 (by omega)
      rw [show 64 * 1 + (63 - k2x2) = 255 - (128 + k2x2) by omega] at q2
      rw [← q2]
      exact q.1 lb7
     refine sT <| Sy.region ?_
     refine sS (tv j3.x.val j3.y.val j3.z.val) (qL 4 g6 0 12 126 126 (tcs j3.x.val j3.y.val j3.z.val) rfl Tryz.underlying126) <| sS (fv u.val) (qL 2 g4 0 4 97 97 (fcs u.val) rfl Tryz.underlying97) <| sS (fv v.val) (qL 3 g5 0 4 97 97 (fcs v.val) rfl Tryz.underlying97) ?_
     obtain ⟨j4,hj4⟩ : ∃ z : J,z = plusR j3 u v:=⟨_,rfl⟩
     refine sS (tv j4.x.val j4.y.val j4.z.val) (qF 79 #[tv j3.x.val j3.y.val j3.z.val,fv u.val,fv v.val] (fun w => by rw [hj4]; exact plusR_c w j3 u v)) <| sW 4 g6 126 (tcs j3.x.val j3.y.val j3.z.val) (tcs j4.x.val j4.y.val j4.z.val) (wS 0 126 (tcs j4.x.val j4.y.val j4.z.val) rfl) ?_
     refine Sy.nil <| Sy.in_ <| Sy.then_ <| Sy.region ?_
     refine sP (.int .u64 ((bt k2x2 : Nat) : Int)) <| sS (.int .u64 ((bt (k2x2 + 1) : Nat) : Int)) (Quiet.pure (exec_int .quo _ _ _ .u64 _ _ _ rfl rfl rfl (int_quo _ _ _ _ _ (by decide) (by rw [← bt_next]; have:=bt_le k2x2; rw [show ((bt k2x2 : Nat) : Int).tdiv 2 = ((bt k2x2 / 2 : Nat) : Int) from rfl]; exact wrap_u64 (by omega) (by omega))))) <| sP (.int .u64 ((bt (k2x2 + 1) : Nat) : Int)) ?_
     refine Sy.nil ?_
     exact Sy.againK [true,true,true,true,true] (M:=[(g2,71,(pcs 0 0 false)),(g3,97,(fcs m)),(g4,97,(fcs u.val)),(g5,97,(fcs v.val)),(g6,126,(tcs j4.x.val j4.y.val j4.z.val))]) (by omega) (all_cons kR (all_cons kR (all_cons kR (all_cons kR (all_cons kR (all_cons kR (all_cons kR all_nil))))))) kR (bcons rfl (bcons rfl (bcons rfl (bcons rfl (bcons (beq (by rw [hj4,hj3, ← bitJ_yes fb7]; rfl)) rfl)))))
  ·have lb2 : k2x1 < 64:=of_decide_eq_true hb2.symm
   refine sT <| Sy.skip <| Sy.then_ <| Sy.seq <| Sy.block <| sC ?_
   refine sS (tv ((bitJ m u v (64 + k2x1)).x.val) ((bitJ m u v (64 + k2x1)).y.val) ((bitJ m u v (64 + k2x1)).z.val)) (qL 4 g6 0 12 126 126 (tcs ((bitJ m u v (64 + k2x1)).x.val) ((bitJ m u v (64 + k2x1)).y.val) ((bitJ m u v (64 + k2x1)).z.val)) rfl Tryz.underlying126) ?_
   obtain ⟨j5,hj5⟩ : ∃ z : J,z = dblR (bitJ m u v (64 + k2x1)):=⟨_,rfl⟩
   refine sS (tv j5.x.val j5.y.val j5.z.val) (qF 78 #[tv ((bitJ m u v (64 + k2x1)).x.val) ((bitJ m u v (64 + k2x1)).y.val) ((bitJ m u v (64 + k2x1)).z.val)] (fun w => by rw [hj5]; exact twiceR_c w (bitJ m u v (64 + k2x1)))) <| sW 4 g6 126 (tcs ((bitJ m u v (64 + k2x1)).x.val) ((bitJ m u v (64 + k2x1)).y.val) ((bitJ m u v (64 + k2x1)).z.val)) (tcs j5.x.val j5.y.val j5.z.val) (wS 0 126 (tcs j5.x.val j5.y.val j5.z.val) rfl) ?_
   refine sA ?_
   refine sP (.int .i64 2) <| sP (.pointer (some ⟨g3,2,none⟩)) <| sS (qv (m / 340282366920938463463374607431768211456 % 18446744073709551616)) (qC 1 g3 2 97 22 (fcs m) rfl Tryz.underlying22) <| sP (.int .u64 ((bt k2x1 : Nat) : Int)) <| sS (.int .u64 (((m / 340282366920938463463374607431768211456 % 18446744073709551616) &&& bt k2x1 : Nat) : Int)) (Quiet.pure (exec_and _ _ _ _ _ (m / 340282366920938463463374607431768211456 % 18446744073709551616) (bt k2x1) (Nat.mod_lt _ (by decide)) (bt_le _) rfl rfl rfl)) ?_
   obtain ⟨b8,hb8⟩ : ∃ z : Bool,z = decide ((m / 340282366920938463463374607431768211456 % 18446744073709551616) &&& bt k2x1 ≠ 0):=⟨_,rfl⟩
   refine sS (.bool b8) (Quiet.pure (exec_int .neq _ _ _ .u64 _ _ _ rfl rfl rfl (int_neq _ _ _ _ _ (by rw [hb8]; exact decide_eq_decide.2 (by omega))))) ?_
   refine sG ?_
   cases b8
   ·have lb8 : ¬ ((m / 340282366920938463463374607431768211456 % 18446744073709551616) &&& bt k2x1 ≠ 0):=of_decide_eq_false hb8.symm
    have fb8 : ¬ m / 2 ^ (255 - (64 + k2x1)) % 2 = 1:=by
     have q:=and_bt (m / 340282366920938463463374607431768211456 % 18446744073709551616) k2x1 (by omega)
     have q2:=word_bit m 2 k2x1 (by omega)
     rw [show 64 * 2 + (63 - k2x1) = 255 - (64 + k2x1) by omega] at q2
     rw [← q2]
     exact fun t => lb8 (q.2 t)
    refine sU <| Sy.skip <| Sy.in_ <| Sy.then_ <| Sy.region ?_
    refine sP (.int .u64 ((bt k2x1 : Nat) : Int)) <| sS (.int .u64 ((bt (k2x1 + 1) : Nat) : Int)) (Quiet.pure (exec_int .quo _ _ _ .u64 _ _ _ rfl rfl rfl (int_quo _ _ _ _ _ (by decide) (by rw [← bt_next]; have:=bt_le k2x1; rw [show ((bt k2x1 : Nat) : Int).tdiv 2 = ((bt k2x1 / 2 : Nat) : Int) from rfl]; exact wrap_u64 (by omega) (by omega))))) <| sP (.int .u64 ((bt (k2x1 + 1) : Nat) : Int)) ?_
    refine Sy.nil ?_
    exact Sy.againK [true,true,true,true,true] (M:=[(g2,71,(pcs 0 0 false)),(g3,97,(fcs m)),(g4,97,(fcs u.val)),(g5,97,(fcs v.val)),(g6,126,(tcs j5.x.val j5.y.val j5.z.val))]) (by omega) (all_cons kR (all_cons kR (all_cons kR (all_cons kR (all_cons kR (all_cons kR (all_cons kR all_nil))))))) kR (bcons rfl (bcons rfl (bcons rfl (bcons rfl (bcons (beq (by rw [hj5, ← bitJ_no fb8]; rfl)) rfl)))))
   ·have lb8 : (m / 340282366920938463463374607431768211456 % 18446744073709551616) &&& bt k2x1 ≠ 0:=of_decide_eq_true hb8.symm
    have fb8 :  m / 2 ^ (255 - (64 + k2x1)) % 2 = 1:=by
     have q:=and_bt (m / 340282366920938463463374607431768211456 % 18446744073709551616) k2x1 (by omega)
     have q2:=word_bit m 2 k2x1 (by omega)
     rw [show 64 * 2 + (63 - k2x1) = 255 - (64 + k2x1) by omega] at q2
     rw [← q2]
     exact q.1 lb8
    refine sT <| Sy.region ?_
    refine sS (tv j5.x.val j5.y.val j5.z.val) (qL 4 g6 0 12 126 126 (tcs j5.x.val j5.y.val j5.z.val) rfl Tryz.underlying126) <| sS (fv u.val) (qL 2 g4 0 4 97 97 (fcs u.val) rfl Tryz.underlying97) <| sS (fv v.val) (qL 3 g5 0 4 97 97 (fcs v.val) rfl Tryz.underlying97) ?_
    obtain ⟨j6,hj6⟩ : ∃ z : J,z = plusR j5 u v:=⟨_,rfl⟩
    refine sS (tv j6.x.val j6.y.val j6.z.val) (qF 79 #[tv j5.x.val j5.y.val j5.z.val,fv u.val,fv v.val] (fun w => by rw [hj6]; exact plusR_c w j5 u v)) <| sW 4 g6 126 (tcs j5.x.val j5.y.val j5.z.val) (tcs j6.x.val j6.y.val j6.z.val) (wS 0 126 (tcs j6.x.val j6.y.val j6.z.val) rfl) ?_
    refine Sy.nil <| Sy.in_ <| Sy.then_ <| Sy.region ?_
    refine sP (.int .u64 ((bt k2x1 : Nat) : Int)) <| sS (.int .u64 ((bt (k2x1 + 1) : Nat) : Int)) (Quiet.pure (exec_int .quo _ _ _ .u64 _ _ _ rfl rfl rfl (int_quo _ _ _ _ _ (by decide) (by rw [← bt_next]; have:=bt_le k2x1; rw [show ((bt k2x1 : Nat) : Int).tdiv 2 = ((bt k2x1 / 2 : Nat) : Int) from rfl]; exact wrap_u64 (by omega) (by omega))))) <| sP (.int .u64 ((bt (k2x1 + 1) : Nat) : Int)) ?_
    refine Sy.nil ?_
    exact Sy.againK [true,true,true,true,true] (M:=[(g2,71,(pcs 0 0 false)),(g3,97,(fcs m)),(g4,97,(fcs u.val)),(g5,97,(fcs v.val)),(g6,126,(tcs j6.x.val j6.y.val j6.z.val))]) (by omega) (all_cons kR (all_cons kR (all_cons kR (all_cons kR (all_cons kR (all_cons kR (all_cons kR all_nil))))))) kR (bcons rfl (bcons rfl (bcons rfl (bcons rfl (bcons (beq (by rw [hj6,hj5, ← bitJ_yes fb8]; rfl)) rfl)))))
 ·have lb1 : k2x0 < 64:=of_decide_eq_true hb1.symm
  refine sT <| Sy.skip <| Sy.then_ <| Sy.seq <| Sy.block <| sC ?_
  refine sS (tv ((bitJ m u v (0 + k2x0)).x.val) ((bitJ m u v (0 + k2x0)).y.val) ((bitJ m u v (0 + k2x0)).z.val)) (qL 4 g6 0 12 126 126 (tcs ((bitJ m u v (0 + k2x0)).x.val) ((bitJ m u v (0 + k2x0)).y.val) ((bitJ m u v (0 + k2x0)).z.val)) rfl Tryz.underlying126) ?_
  obtain ⟨j7,hj7⟩ : ∃ z : J,z = dblR (bitJ m u v (0 + k2x0)):=⟨_,rfl⟩
  refine sS (tv j7.x.val j7.y.val j7.z.val) (qF 78 #[tv ((bitJ m u v (0 + k2x0)).x.val) ((bitJ m u v (0 + k2x0)).y.val) ((bitJ m u v (0 + k2x0)).z.val)] (fun w => by rw [hj7]; exact twiceR_c w (bitJ m u v (0 + k2x0)))) <| sW 4 g6 126 (tcs ((bitJ m u v (0 + k2x0)).x.val) ((bitJ m u v (0 + k2x0)).y.val) ((bitJ m u v (0 + k2x0)).z.val)) (tcs j7.x.val j7.y.val j7.z.val) (wS 0 126 (tcs j7.x.val j7.y.val j7.z.val) rfl) ?_
  refine sA ?_
  refine sP (.int .i64 3) <| sP (.pointer (some ⟨g3,3,none⟩)) <| sS (qv (m / 6277101735386680763835789423207666416102355444464034512896 % 18446744073709551616)) (qC 1 g3 3 97 22 (fcs m) rfl Tryz.underlying22) <| sP (.int .u64 ((bt k2x0 : Nat) : Int)) <| sS (.int .u64 (((m / 6277101735386680763835789423207666416102355444464034512896 % 18446744073709551616) &&& bt k2x0 : Nat) : Int)) (Quiet.pure (exec_and _ _ _ _ _ (m / 6277101735386680763835789423207666416102355444464034512896 % 18446744073709551616) (bt k2x0) (Nat.mod_lt _ (by decide)) (bt_le _) rfl rfl rfl)) ?_
  obtain ⟨b9,hb9⟩ : ∃ z : Bool,z = decide ((m / 6277101735386680763835789423207666416102355444464034512896 % 18446744073709551616) &&& bt k2x0 ≠ 0):=⟨_,rfl⟩
  refine sS (.bool b9) (Quiet.pure (exec_int .neq _ _ _ .u64 _ _ _ rfl rfl rfl (int_neq _ _ _ _ _ (by rw [hb9]; exact decide_eq_decide.2 (by omega))))) ?_
  refine sG ?_
  cases b9
  ·have lb9 : ¬ ((m / 6277101735386680763835789423207666416102355444464034512896 % 18446744073709551616) &&& bt k2x0 ≠ 0):=of_decide_eq_false hb9.symm
   have fb9 : ¬ m / 2 ^ (255 - (0 + k2x0)) % 2 = 1:=by
    have q:=and_bt (m / 6277101735386680763835789423207666416102355444464034512896 % 18446744073709551616) k2x0 (by omega)
    have q2:=word_bit m 3 k2x0 (by omega)
    rw [show 64 * 3 + (63 - k2x0) = 255 - (0 + k2x0) by omega] at q2
    rw [← q2]
    exact fun t => lb9 (q.2 t)
   refine sU <| Sy.skip <| Sy.in_ <| Sy.then_ <| Sy.region ?_
   refine sP (.int .u64 ((bt k2x0 : Nat) : Int)) <| sS (.int .u64 ((bt (k2x0 + 1) : Nat) : Int)) (Quiet.pure (exec_int .quo _ _ _ .u64 _ _ _ rfl rfl rfl (int_quo _ _ _ _ _ (by decide) (by rw [← bt_next]; have:=bt_le k2x0; rw [show ((bt k2x0 : Nat) : Int).tdiv 2 = ((bt k2x0 / 2 : Nat) : Int) from rfl]; exact wrap_u64 (by omega) (by omega))))) <| sP (.int .u64 ((bt (k2x0 + 1) : Nat) : Int)) ?_
   refine Sy.nil ?_
   exact Sy.againK [true,true,true,true,true] (M:=[(g2,71,(pcs 0 0 false)),(g3,97,(fcs m)),(g4,97,(fcs u.val)),(g5,97,(fcs v.val)),(g6,126,(tcs j7.x.val j7.y.val j7.z.val))]) (by omega) (all_cons kR (all_cons kR (all_cons kR (all_cons kR (all_cons kR (all_cons kR (all_cons kR all_nil))))))) kR (bcons rfl (bcons rfl (bcons rfl (bcons rfl (bcons (beq (by rw [hj7, ← bitJ_no fb9]; rfl)) rfl)))))
  ·have lb9 : (m / 6277101735386680763835789423207666416102355444464034512896 % 18446744073709551616) &&& bt k2x0 ≠ 0:=of_decide_eq_true hb9.symm
   have fb9 :  m / 2 ^ (255 - (0 + k2x0)) % 2 = 1:=by
    have q:=and_bt (m / 6277101735386680763835789423207666416102355444464034512896 % 18446744073709551616) k2x0 (by omega)
    have q2:=word_bit m 3 k2x0 (by omega)
    rw [show 64 * 3 + (63 - k2x0) = 255 - (0 + k2x0) by omega] at q2
    rw [← q2]
    exact q.1 lb9
   refine sT <| Sy.region ?_
   refine sS (tv j7.x.val j7.y.val j7.z.val) (qL 4 g6 0 12 126 126 (tcs j7.x.val j7.y.val j7.z.val) rfl Tryz.underlying126) <| sS (fv u.val) (qL 2 g4 0 4 97 97 (fcs u.val) rfl Tryz.underlying97) <| sS (fv v.val) (qL 3 g5 0 4 97 97 (fcs v.val) rfl Tryz.underlying97) ?_
   obtain ⟨j8,hj8⟩ : ∃ z : J,z = plusR j7 u v:=⟨_,rfl⟩
   refine sS (tv j8.x.val j8.y.val j8.z.val) (qF 79 #[tv j7.x.val j7.y.val j7.z.val,fv u.val,fv v.val] (fun w => by rw [hj8]; exact plusR_c w j7 u v)) <| sW 4 g6 126 (tcs j7.x.val j7.y.val j7.z.val) (tcs j8.x.val j8.y.val j8.z.val) (wS 0 126 (tcs j8.x.val j8.y.val j8.z.val) rfl) ?_
   refine Sy.nil <| Sy.in_ <| Sy.then_ <| Sy.region ?_
   refine sP (.int .u64 ((bt k2x0 : Nat) : Int)) <| sS (.int .u64 ((bt (k2x0 + 1) : Nat) : Int)) (Quiet.pure (exec_int .quo _ _ _ .u64 _ _ _ rfl rfl rfl (int_quo _ _ _ _ _ (by decide) (by rw [← bt_next]; have:=bt_le k2x0; rw [show ((bt k2x0 : Nat) : Int).tdiv 2 = ((bt k2x0 / 2 : Nat) : Int) from rfl]; exact wrap_u64 (by omega) (by omega))))) <| sP (.int .u64 ((bt (k2x0 + 1) : Nat) : Int)) ?_
   refine Sy.nil ?_
   exact Sy.againK [true,true,true,true,true] (M:=[(g2,71,(pcs 0 0 false)),(g3,97,(fcs m)),(g4,97,(fcs u.val)),(g5,97,(fcs v.val)),(g6,126,(tcs j8.x.val j8.y.val j8.z.val))]) (by omega) (all_cons kR (all_cons kR (all_cons kR (all_cons kR (all_cons kR (all_cons kR (all_cons kR all_nil))))))) kR (bcons rfl (bcons rfl (bcons rfl (bcons rfl (bcons (beq (by rw [hj8,hj7, ← bitJ_yes fb9]; rfl)) rfl)))))
theorem mulRe_any (w : World) (k x y : Nat) (i : Bool) (hk : k < K4) (hx : x < K4) (hy : y < K4) : Calls Tryz.prog 30 #[fv k,pv x y i] w (Gets w (ptv (Ec.nm finv (k % Sc.pM) (dec x y i)))):=by
 have o1:=dec_on x y i
 rcases h : dec x y i with _ | ⟨u,v⟩
 ·rw [Ec.nm_none]
  exact mulRe_none w k x y i hk hx hy h
 ·rw [h] at o1
  exact mulRe_some w k x y i hk hx hy u v h o1
end Cu
end
section
namespace Cu
open Go.RowKit Sy
set_option maxRecDepth 100000
end Cu
end
section
namespace Cu
open Go.RowKit Sy
set_option maxRecDepth 100000
end Cu
end
section
namespace Cu
open Go.ChangeShapes Go.WideShapes Go.ChangeAt Go.RowKit Go.Deep
theorem cells_eachL {W : World} {base : Nat} {a : Addr} {n : Nat} {cs : List Value} (h : W.cells? base a n = some cs) : ∀ (j : Nat) (v : Value),cs[j]? = some v → W.cell? (a.add j) = some v:=fun j v hj => by
 unfold World.cells? at h
 split at h
 ·have hl:=Lib.mapM_length h
  have hjl : j < n:=by
   have:=(List.getElem?_eq_some_iff.1 hj).1
   simp at hl
   omega
  obtain ⟨b,hb,hf⟩:=Lib.mapM_at h j j (by simp [hjl])
  rw [hb] at hj
  injection hj with hj
  rw [hf,hj]
 ·cases h
theorem cells_lenL {W : World} {base : Nat} {a : Addr} {n : Nat} {cs : List Value} (h : W.cells? base a n = some cs) : cs.length = n:=by
 unfold World.cells? at h
 split at h
 ·have hl:=Lib.mapM_length h
  simpa using hl
 ·cases h
theorem choose_ltL {α : Type} [Inhabited α] {n : Nat} {p : Nat → α → Prop} (h : ∀ i,i < n → ∃ x,p i x) (q : α → Prop) (hq : q default) (hpq : ∀ i x,p i x → q x) : ∃ f : Nat → α,(∀ i,q (f i)) ∧ ∀ i,i < n → p i (f i) :=
 ⟨fun i => if hi : i < n then Classical.choose (h i hi) else default,fun i => by
  by_cases hi : i < n
  ·simp only [hi,dif_pos]; exact hpq i _ (Classical.choose_spec (h i hi))
  ·simp only [hi,dif_neg,not_false_iff]; exact hq,fun i hi => by simp only [hi,dif_pos]; exact Classical.choose_spec (h i hi)⟩
theorem cell_spotL {w : World} {a : Addr} {v : Value} (h : w.cell? a = some v) : ∃ b o,a = ⟨b,o,none⟩ ∧ b < w.heap.size:=by
 obtain ⟨b,o,k⟩:=a
 unfold World.cell? at h
 cases k with
 | none =>
  refine ⟨b,o,rfl,?_⟩
  rcases Nat.lt_or_ge b w.heap.size with hl | hl
  ·exact hl
  ·simp [Array.getElem?_eq_none hl] at h
 | some k => exfalso; cases hw : w.heap[b]? with
  | none => simp [hw] at h
  | some ob => cases ob <;> simp [hw] at h
theorem add_midL (b o n : Nat) : (⟨b,o,none⟩ : Addr).add n = ⟨b,o + n,none⟩:=by unfold Addr.add; split <;> simp_all
end Cu
end
section
namespace Cu
open Go.ChangeShapes Go.WideShapes Go.ChangeAt Go.RowKit Go.Deep
theorem four_words {H : Type} {enc : TypeId × Value → H} {P : Program} {W : World} {fuel : Nat} {t q : TypeId} {cs : List Value} {x : DataW H × List MemPlace} (hl : cs.length = 4) (ht : P.underlying t = some (.array 4 q)) (hq : P.underlying q = some (.int .u64)) (hcq : P.cellsOf q = 1) (hf : DataW.trod enc P W 0 (fun _ => true) true fuel t cs = some x) : ∃ n : Nat,n < K4 ∧ cs = fws n:=by
 match cs,hl with
 | [a,b,c,d],_ => exact words_trod ht hq hcq hf
end Cu
end
section
namespace Cu
open Go.RowKit Sy
theorem eql_bool_same (w : World) (F : Slots) (o : Oper) (x y : Operand) (b : Bool) {yt : TypeId} (ho : o.op = .binOp .eql 4 x y yt) (hx : evF F x = .bool b) (hy : evF F y = .bool b) : (execOp (evF F) o).run Tryz.prog w = .ok (.value (.bool true)) w:=by
 unfold execOp
 simp only [ho,hx,hy]
 cases b <;> kernel_rfl
end Cu
end
section
namespace Cu
open Go.RowKit Sy
def encS : Pt → List UInt8
 | none => List.replicate 33 0
 | some (x,y) => (if y.val % 2 = 1 then 3 else 2) :: bytesS x.val
theorem encS_length : ∀ P,(encS P).length = 33
 | none => rfl
 | some (x,y) => by simp [encS,bytesS_length]
theorem liftP_on (l : List UInt8) : Ec.On (liftP l):=by
 cases h : liftB l
 ·rw [lift_no h]; trivial
 ·obtain ⟨u,y,_,_,e,ho,_⟩:=lift_yes h
  rw [e]; exact ho
theorem val_neg' (y : Fp) (h : y ≠ 0) : (-y).val % 2 ≠ y.val % 2:=by
 have hs : y + -y = 0:=by grobner
 have h1:=Ec.val_of_sum hs h
 have h2 : pM % 2 = 1:=by decide +kernel
 omega
theorem lift_x (x y : Fp) (h : y * y = x * x * x + 7) : liftP (bytesS x.val) = if y.val % 2 = 1 then some (x, -y) else some (x,y):=by
 have hv : valB (bytesS x.val) = x.val:=valB_bytesS _ (lt4 x)
 have hc : cubeN x.val = mulP y.val y.val:=by
  rw [cubeN_val, ← h]
  rfl
 obtain ⟨s,hs,hsn⟩:=sqrt_sq y.val
 have hb : liftB (bytesS x.val) = true:=by
  unfold liftB
  rw [hv,hc,hs]
  simp [x.isLt]
 obtain ⟨u,r,e1,e2,e3,e4,e5⟩:=lift_yes hb
 rw [hv] at e1
 have eu : u = x:=Fin.ext e1
 subst eu
 rw [hv,hc,hs] at e2
 have e2 : r.val = s:=e2
 rw [e3]
 have hy:=no_two u y h
 rcases hsn with q | q
 ·have er : r = y:=Fin.ext (by rw [e2,q,Nat.mod_eq_of_lt y.isLt])
  subst er
  rw [if_neg (by omega)]
 ·have er : r = -y:=Fin.ext (by rw [e2,q,val_neg])
  subst er
  have:=val_neg' y hy
  rw [if_pos (by omega)]
theorem list32 (m : List UInt8) (h : m.length = 32) : ∃ a0 a1 a2 a3 a4 a5 a6 a7 a8 a9 a10 a11 a12 a13 a14 a15 a16 a17 a18 a19 a20 a21 a22 a23 a24 a25 a26 a27 a28 a29 a30 a31 : UInt8,m = [a0,a1,a2,a3,a4,a5,a6,a7,a8,a9,a10,a11,a12,a13,a14,a15,a16,a17,a18,a19,a20,a21,a22,a23,a24,a25,a26,a27,a28,a29,a30,a31]:=by
 match m,h with
 | [a0,a1,a2,a3,a4,a5,a6,a7,a8,a9,a10,a11,a12,a13,a14,a15,a16,a17,a18,a19,a20,a21,a22,a23,a24,a25,a26,a27,a28,a29,a30,a31],_ => exact ⟨a0,a1,a2,a3,a4,a5,a6,a7,a8,a9,a10,a11,a12,a13,a14,a15,a16,a17,a18,a19,a20,a21,a22,a23,a24,a25,a26,a27,a28,a29,a30,a31,  rfl⟩
theorem eql_u8 (w : World) (F : Slots) (o : Oper) (x y : Operand) (a : UInt8) (k : Nat) (hk : k < 256) {yt : TypeId} (ho : o.op = .binOp .eql 5 x y yt) (hx : evF F x = bv a) (hy : evF F y = .int .u8 k) : (execOp (evF F) o).run Tryz.prog w = .ok (.value (.bool (decide (a = UInt8.ofNat k)))) w:=by
 have h1:=Tryz.underlying5
 have e : ((a.toNat : Int) == (k : Int)) = decide (a = UInt8.ofNat k):=by
  rw [Bool.eq_iff_iff]
  simp
  constructor
  ·intro h
   have : a.toNat = k:=by omega
   exact UInt8.toNat_inj.1 (by rw [this,UInt8.toNat_ofNat']; omega)
  ·rintro rfl
   rw [UInt8.toNat_ofNat']
   omega
 unfold execOp
 simp only [ho,hx,hy,bv]
 simp [eqGuard,binOp,Op.intCmp,e]
end Cu
end
section
namespace Cu
open Go.RowKit Sy
set_option maxRecDepth 100000
set_option maxHeartbeats 4000000
theorem enc_none (w : World) (x y : Nat) (i : Bool) (hx : x < K4) (hy : y < K4) (h : dec x y i = none) : Calls Tryz.prog 92 #[pv x y i] w (Gets w (.agg ((encS none).map bv).toArray)):=by
 refine Sy.enter (args:=[pv x y i]) Tryz.func92 rfl kL ?_
 refine sC ?_
 refine sM 71 (pcs x y i) (fun g0 => ?_)
 refine Sy.make kR 139 (Zl 33).toArray ptr kF (fun g1 => ?_)
 refine sA ?_
 refine Sy.make kR 139 (Zl 33).toArray ptr kF (fun g2 => ?_)
 refine sA ?_
 refine sS (pv x y i) (qL 0 g0 0 9 71 71 (pcs x y i) rfl Tryz.underlying71) <| sS (pv 0 0 true) (qF 139 #[pv x y i] (fun w => by have hrr:=right_c w x y i lK lK; rw [h] at hrr; exact hrr)) <| sW 0 g0 71 (pcs x y i) (pcs 0 0 true) (wS 0 71 (pcs 0 0 true) rfl) ?_
 refine sG <| Sy.seq <| Sy.seq ?_
 refine Sy.regionD (fun j => false) kR ?_
 refine sD 0 rfl (pv 0 0 true) (qL 0 g0 0 9 71 71 (pcs 0 0 true) rfl Tryz.underlying71) <| sD 1 rfl (pv 0 0 true) (qF 140 #[] (zero_c)) <| sD 2 rfl (.bool true) (Quiet.pure (fun w => eql_pt w _ _ _ _ 0 0 true 0 0 true rfl rfl rfl (by decide) (by decide) (by decide) (by decide))) ?_
 refine sI ?_
 refine sT <| sC ?_
 refine sS (.agg ((Zl 33) : List Value).toArray) (Quiet.load 2 g2 0 33 139 139 (Zl 33).toArray _ _ rfl kR kR Tryz.underlying139 rfl kR _ kR kL) ?_
 refine Sy.write kR 1 g1 139 (Zl 33).toArray (Zl 33).toArray kR (Writes.store 0 139 (Zl 33).toArray _ _ rfl kR kR kR kL kR kR) ?_
 refine sG <| Sy.ret <| Sy.then_ret ?_
 rw [show (.agg ((encS none).map bv).toArray : Value) = .agg ((Zl 33) : List Value).toArray from by kernel_rfl]
 exact Sy.ret1 (v:=.agg ((Zl 33) : List Value).toArray) rfl (.inl (Res.cell (ty':=139) g1 1 (Zl 33).toArray _ kR kR Tryz.underlying139 rfl kR kR))
theorem enc_some (w : World) (x y : Nat) (i : Bool) (hx : x < K4) (hy : y < K4) (u v : Fp) (h : dec x y i = some (u,v)) : Calls Tryz.prog 92 #[pv x y i] w (Gets w (.agg ((encS (some (u,v))).map bv).toArray)):=by
 obtain ⟨a0,a1,a2,a3,a4,a5,a6,a7,a8,a9,a10,a11,a12,a13,a14,a15,a16,a17,a18,a19,a20,a21,a22,a23,a24,a25,a26,a27,a28,a29,a30,a31,hm⟩:=list32 (bytesS u.val) (bytesS_length _)
 have cB : ∀ w,Calls Tryz.prog 142 #[fv u.val] w (Gets w (.agg ((bv a0 :: bv a1 :: [bv a2,bv a3,bv a4,bv a5,bv a6,bv a7,bv a8,bv a9,bv a10,bv a11,bv a12,bv a13,bv a14,bv a15,bv a16,bv a17,bv a18,bv a19,bv a20,bv a21,bv a22,bv a23,bv a24,bv a25,bv a26,bv a27,bv a28,bv a29,bv a30,bv a31]) : List Value).toArray)):=fun w => by
  have hh:=bytes_any w u.val (lt4 u)
  rw [Nat.mod_eq_of_lt u.isLt,hm] at hh
  exact hh
 refine Sy.enter (args:=[pv x y i]) Tryz.func92 rfl kL ?_
 refine sC ?_
 refine sM 71 (pcs x y i) (fun g0 => ?_)
 refine Sy.make kR 139 (Zl 33).toArray ptr kF (fun g1 => ?_)
 refine sA ?_
 refine Sy.make kR 139 (Zl 33).toArray ptr kF (fun g2 => ?_)
 refine sA ?_
 refine sS (pv x y i) (qL 0 g0 0 9 71 71 (pcs x y i) rfl Tryz.underlying71) <| sS (pv u.val v.val false) (qF 139 #[pv x y i] (fun w => by have hrr:=right_c w x y i lK lK; rw [h] at hrr; exact hrr)) <| sW 0 g0 71 (pcs x y i) (pcs u.val v.val false) (wS 0 71 (pcs u.val v.val false) rfl) ?_
 refine sG <| Sy.seq <| Sy.seq ?_
 refine Sy.regionD (fun j => false) kR ?_
 refine sD 0 rfl (pv u.val v.val false) (qL 0 g0 0 9 71 71 (pcs u.val v.val false) rfl Tryz.underlying71) <| sD 1 rfl (pv 0 0 true) (qF 140 #[] (zero_c)) <| sD 2 rfl (.bool false) (Quiet.pure (fun w => eql_pt_ne w _ _ _ _ _ _ _ _ _ _ rfl rfl rfl lK lK lK lK (by decide))) ?_
 refine sI ?_
 refine sU <| Sy.skip <| sB ?_
 refine sP (.pointer (some ⟨g2,0,none⟩)) ?_
 refine Sy.write kR 2 g2 139 (Zl 33).toArray (.int .u8 2 :: Zl 32).toArray kR (wO 0 5 (.int .u8 2) rfl) ?_
 refine sG <| Sy.seq <| sC ?_
 refine sP (.pointer (some ⟨g0,4,none⟩)) <| sS (fv v.val) (qL 0 g0 4 4 71 69 (pcs u.val v.val false) rfl Tryz.underlying69) ?_
 obtain ⟨b1,hb1⟩ : ∃ z : Bool,z = decide (v.val % pM % 2 = 1):=⟨_,rfl⟩
 refine sS (.bool b1) (qF 141 #[fv v.val] (fun w => by rw [hb1]; exact odd_any w v.val lK)) ?_
 refine sG ?_
 cases b1
 ·refine sU <| Sy.skip <| sB ?_
  refine sP (.pointer (some ⟨g0,0,none⟩)) <| sS (fv u.val) (qL 0 g0 0 4 71 69 (pcs u.val v.val false) rfl Tryz.underlying69) <| sS (.agg ((bv a0 :: bv a1 :: [bv a2,bv a3,bv a4,bv a5,bv a6,bv a7,bv a8,bv a9,bv a10,bv a11,bv a12,bv a13,bv a14,bv a15,bv a16,bv a17,bv a18,bv a19,bv a20,bv a21,bv a22,bv a23,bv a24,bv a25,bv a26,bv a27,bv a28,bv a29,bv a30,bv a31]) : List Value).toArray) (qF 142 #[fv u.val] (cB)) ?_
  refine Sy.make kR 30 (Zl 32).toArray ptr kF (fun g3 => ?_)
  refine Sy.write kR 3 g3 30 (Zl 32).toArray (bv a0 :: bv a1 :: [bv a2,bv a3,bv a4,bv a5,bv a6,bv a7,bv a8,bv a9,bv a10,bv a11,bv a12,bv a13,bv a14,bv a15,bv a16,bv a17,bv a18,bv a19,bv a20,bv a21,bv a22,bv a23,bv a24,bv a25,bv a26,bv a27,bv a28,bv a29,bv a30,bv a31]).toArray kR (Writes.store 0 30 (bv a0 :: bv a1 :: [bv a2,bv a3,bv a4,bv a5,bv a6,bv a7,bv a8,bv a9,bv a10,bv a11,bv a12,bv a13,bv a14,bv a15,bv a16,bv a17,bv a18,bv a19,bv a20,bv a21,bv a22,bv a23,bv a24,bv a25,bv a26,bv a27,bv a28,bv a29,bv a30,bv a31]).toArray _ _ rfl kR kR kR kL kR kR) ?_
  refine sH (fun j => j == 2) ?_
  refine sZ 0 rfl (.slice (some ⟨g2,1,none⟩) 32 32) <| sZ 1 rfl (.slice (some ⟨g3,0,none⟩) 32 32) ?_
  refine Sy.writeVD 2 rfl kR (by rfl) kR 2 g2 139 (.int .u8 2 :: Zl 32).toArray (.int .u8 2 :: bv a0 :: bv a1 :: [bv a2,bv a3,bv a4,bv a5,bv a6,bv a7,bv a8,bv a9,bv a10,bv a11,bv a12,bv a13,bv a14,bv a15,bv a16,bv a17,bv a18,bv a19,bv a20,bv a21,bv a22,bv a23,bv a24,bv a25,bv a26,bv a27,bv a28,bv a29,bv a30,bv a31]).toArray (.int .i64 32) kR (WritesV.copy _ _ 25 25 _ rfl Tryz.underlying25 kR 2 g2 1 32 32 139 (.int .u8 2 :: Zl 32).toArray (.int .u8 2 :: bv a0 :: bv a1 :: [bv a2,bv a3,bv a4,bv a5,bv a6,bv a7,bv a8,bv a9,bv a10,bv a11,bv a12,bv a13,bv a14,bv a15,bv a16,bv a17,bv a18,bv a19,bv a20,bv a21,bv a22,bv a23,bv a24,bv a25,bv a26,bv a27,bv a28,bv a29,bv a30,bv a31]).toArray kR kR 3 g3 0 32 32 30 (bv a0 :: bv a1 :: [bv a2,bv a3,bv a4,bv a5,bv a6,bv a7,bv a8,bv a9,bv a10,bv a11,bv a12,bv a13,bv a14,bv a15,bv a16,bv a17,bv a18,bv a19,bv a20,bv a21,bv a22,bv a23,bv a24,bv a25,bv a26,bv a27,bv a28,bv a29,bv a30,bv a31]).toArray kR kR (bv a0 :: bv a1 :: [bv a2,bv a3,bv a4,bv a5,bv a6,bv a7,bv a8,bv a9,bv a10,bv a11,bv a12,bv a13,bv a14,bv a15,bv a16,bv a17,bv a18,bv a19,bv a20,bv a21,bv a22,bv a23,bv a24,bv a25,bv a26,bv a27,bv a28,bv a29,bv a30,bv a31]) kR kR (all_one _ kR) kL kR) ?_
  refine sE ?_
  refine sB ?_
  refine sS (.agg ((.int .u8 2 :: bv a0 :: bv a1 :: [bv a2,bv a3,bv a4,bv a5,bv a6,bv a7,bv a8,bv a9,bv a10,bv a11,bv a12,bv a13,bv a14,bv a15,bv a16,bv a17,bv a18,bv a19,bv a20,bv a21,bv a22,bv a23,bv a24,bv a25,bv a26,bv a27,bv a28,bv a29,bv a30,bv a31]) : List Value).toArray) (Quiet.load 2 g2 0 33 139 139 (.int .u8 2 :: bv a0 :: bv a1 :: [bv a2,bv a3,bv a4,bv a5,bv a6,bv a7,bv a8,bv a9,bv a10,bv a11,bv a12,bv a13,bv a14,bv a15,bv a16,bv a17,bv a18,bv a19,bv a20,bv a21,bv a22,bv a23,bv a24,bv a25,bv a26,bv a27,bv a28,bv a29,bv a30,bv a31]).toArray _ _ rfl kR kR Tryz.underlying139 rfl kR _ kR kL) ?_
  refine Sy.write kR 1 g1 139 (Zl 33).toArray (.int .u8 2 :: bv a0 :: bv a1 :: [bv a2,bv a3,bv a4,bv a5,bv a6,bv a7,bv a8,bv a9,bv a10,bv a11,bv a12,bv a13,bv a14,bv a15,bv a16,bv a17,bv a18,bv a19,bv a20,bv a21,bv a22,bv a23,bv a24,bv a25,bv a26,bv a27,bv a28,bv a29,bv a30,bv a31]).toArray kR (Writes.store 0 139 (.int .u8 2 :: bv a0 :: bv a1 :: [bv a2,bv a3,bv a4,bv a5,bv a6,bv a7,bv a8,bv a9,bv a10,bv a11,bv a12,bv a13,bv a14,bv a15,bv a16,bv a17,bv a18,bv a19,bv a20,bv a21,bv a22,bv a23,bv a24,bv a25,bv a26,bv a27,bv a28,bv a29,bv a30,bv a31]).toArray _ _ rfl kR kR kR kL kR kR) ?_
  refine sG <| Sy.ret ?_
  rw [show (.agg ((encS (some (u,v))).map bv).toArray : Value) = .agg ((.int .u8 2 :: bv a0 :: bv a1 :: [bv a2,bv a3,bv a4,bv a5,bv a6,bv a7,bv a8,bv a9,bv a10,bv a11,bv a12,bv a13,bv a14,bv a15,bv a16,bv a17,bv a18,bv a19,bv a20,bv a21,bv a22,bv a23,bv a24,bv a25,bv a26,bv a27,bv a28,bv a29,bv a30,bv a31]) : List Value).toArray from by
   have e : encS (some (u,v)) = (if v.val % 2 = 1 then 3 else 2) :: bytesS u.val:=rfl
   rw [e,hm,if_neg (by have q:=hb1.symm; rw [Nat.mod_eq_of_lt v.isLt] at q; exact of_decide_eq_false q)]
   rfl]
  exact Sy.ret1 (v:=.agg ((.int .u8 2 :: bv a0 :: bv a1 :: [bv a2,bv a3,bv a4,bv a5,bv a6,bv a7,bv a8,bv a9,bv a10,bv a11,bv a12,bv a13,bv a14,bv a15,bv a16,bv a17,bv a18,bv a19,bv a20,bv a21,bv a22,bv a23,bv a24,bv a25,bv a26,bv a27,bv a28,bv a29,bv a30,bv a31]) : List Value).toArray) rfl (.inl (Res.cell (ty':=139) g1 1 (.int .u8 2 :: bv a0 :: bv a1 :: [bv a2,bv a3,bv a4,bv a5,bv a6,bv a7,bv a8,bv a9,bv a10,bv a11,bv a12,bv a13,bv a14,bv a15,bv a16,bv a17,bv a18,bv a19,bv a20,bv a21,bv a22,bv a23,bv a24,bv a25,bv a26,bv a27,bv a28,bv a29,bv a30,bv a31]).toArray _ kR kR Tryz.underlying139 rfl kR kR))
 ·refine sT <| Sy.region ?_
  refine sP (.pointer (some ⟨g2,0,none⟩)) ?_
  refine Sy.write kR 2 g2 139 (.int .u8 2 :: Zl 32).toArray (.int .u8 3 :: Zl 32).toArray kR (wO 0 5 (.int .u8 3) rfl) ?_
  refine sA ?_
  refine sP (.pointer (some ⟨g0,0,none⟩)) <| sS (fv u.val) (qL 0 g0 0 4 71 69 (pcs u.val v.val false) rfl Tryz.underlying69) <| sS (.agg ((bv a0 :: bv a1 :: [bv a2,bv a3,bv a4,bv a5,bv a6,bv a7,bv a8,bv a9,bv a10,bv a11,bv a12,bv a13,bv a14,bv a15,bv a16,bv a17,bv a18,bv a19,bv a20,bv a21,bv a22,bv a23,bv a24,bv a25,bv a26,bv a27,bv a28,bv a29,bv a30,bv a31]) : List Value).toArray) (qF 142 #[fv u.val] (cB)) ?_
  refine Sy.make kR 30 (Zl 32).toArray ptr kF (fun g4 => ?_)
  refine Sy.write kR 3 g4 30 (Zl 32).toArray (bv a0 :: bv a1 :: [bv a2,bv a3,bv a4,bv a5,bv a6,bv a7,bv a8,bv a9,bv a10,bv a11,bv a12,bv a13,bv a14,bv a15,bv a16,bv a17,bv a18,bv a19,bv a20,bv a21,bv a22,bv a23,bv a24,bv a25,bv a26,bv a27,bv a28,bv a29,bv a30,bv a31]).toArray kR (Writes.store 0 30 (bv a0 :: bv a1 :: [bv a2,bv a3,bv a4,bv a5,bv a6,bv a7,bv a8,bv a9,bv a10,bv a11,bv a12,bv a13,bv a14,bv a15,bv a16,bv a17,bv a18,bv a19,bv a20,bv a21,bv a22,bv a23,bv a24,bv a25,bv a26,bv a27,bv a28,bv a29,bv a30,bv a31]).toArray _ _ rfl kR kR kR kL kR kR) ?_
  refine sH (fun j => j == 2) ?_
  refine sZ 0 rfl (.slice (some ⟨g2,1,none⟩) 32 32) <| sZ 1 rfl (.slice (some ⟨g4,0,none⟩) 32 32) ?_
  refine Sy.writeVD 2 rfl kR (by rfl) kR 2 g2 139 (.int .u8 3 :: Zl 32).toArray (.int .u8 3 :: bv a0 :: bv a1 :: [bv a2,bv a3,bv a4,bv a5,bv a6,bv a7,bv a8,bv a9,bv a10,bv a11,bv a12,bv a13,bv a14,bv a15,bv a16,bv a17,bv a18,bv a19,bv a20,bv a21,bv a22,bv a23,bv a24,bv a25,bv a26,bv a27,bv a28,bv a29,bv a30,bv a31]).toArray (.int .i64 32) kR (WritesV.copy _ _ 25 25 _ rfl Tryz.underlying25 kR 2 g2 1 32 32 139 (.int .u8 3 :: Zl 32).toArray (.int .u8 3 :: bv a0 :: bv a1 :: [bv a2,bv a3,bv a4,bv a5,bv a6,bv a7,bv a8,bv a9,bv a10,bv a11,bv a12,bv a13,bv a14,bv a15,bv a16,bv a17,bv a18,bv a19,bv a20,bv a21,bv a22,bv a23,bv a24,bv a25,bv a26,bv a27,bv a28,bv a29,bv a30,bv a31]).toArray kR kR 3 g4 0 32 32 30 (bv a0 :: bv a1 :: [bv a2,bv a3,bv a4,bv a5,bv a6,bv a7,bv a8,bv a9,bv a10,bv a11,bv a12,bv a13,bv a14,bv a15,bv a16,bv a17,bv a18,bv a19,bv a20,bv a21,bv a22,bv a23,bv a24,bv a25,bv a26,bv a27,bv a28,bv a29,bv a30,bv a31]).toArray kR kR (bv a0 :: bv a1 :: [bv a2,bv a3,bv a4,bv a5,bv a6,bv a7,bv a8,bv a9,bv a10,bv a11,bv a12,bv a13,bv a14,bv a15,bv a16,bv a17,bv a18,bv a19,bv a20,bv a21,bv a22,bv a23,bv a24,bv a25,bv a26,bv a27,bv a28,bv a29,bv a30,bv a31]) kR kR (all_one _ kR) kL kR) ?_
  refine sE ?_
  refine sB ?_
  refine sS (.agg ((.int .u8 3 :: bv a0 :: bv a1 :: [bv a2,bv a3,bv a4,bv a5,bv a6,bv a7,bv a8,bv a9,bv a10,bv a11,bv a12,bv a13,bv a14,bv a15,bv a16,bv a17,bv a18,bv a19,bv a20,bv a21,bv a22,bv a23,bv a24,bv a25,bv a26,bv a27,bv a28,bv a29,bv a30,bv a31]) : List Value).toArray) (Quiet.load 2 g2 0 33 139 139 (.int .u8 3 :: bv a0 :: bv a1 :: [bv a2,bv a3,bv a4,bv a5,bv a6,bv a7,bv a8,bv a9,bv a10,bv a11,bv a12,bv a13,bv a14,bv a15,bv a16,bv a17,bv a18,bv a19,bv a20,bv a21,bv a22,bv a23,bv a24,bv a25,bv a26,bv a27,bv a28,bv a29,bv a30,bv a31]).toArray _ _ rfl kR kR Tryz.underlying139 rfl kR _ kR kL) ?_
  refine Sy.write kR 1 g1 139 (Zl 33).toArray (.int .u8 3 :: bv a0 :: bv a1 :: [bv a2,bv a3,bv a4,bv a5,bv a6,bv a7,bv a8,bv a9,bv a10,bv a11,bv a12,bv a13,bv a14,bv a15,bv a16,bv a17,bv a18,bv a19,bv a20,bv a21,bv a22,bv a23,bv a24,bv a25,bv a26,bv a27,bv a28,bv a29,bv a30,bv a31]).toArray kR (Writes.store 0 139 (.int .u8 3 :: bv a0 :: bv a1 :: [bv a2,bv a3,bv a4,bv a5,bv a6,bv a7,bv a8,bv a9,bv a10,bv a11,bv a12,bv a13,bv a14,bv a15,bv a16,bv a17,bv a18,bv a19,bv a20,bv a21,bv a22,bv a23,bv a24,bv a25,bv a26,bv a27,bv a28,bv a29,bv a30,bv a31]).toArray _ _ rfl kR kR kR kL kR kR) ?_
  refine sG <| Sy.ret ?_
  rw [show (.agg ((encS (some (u,v))).map bv).toArray : Value) = .agg ((.int .u8 3 :: bv a0 :: bv a1 :: [bv a2,bv a3,bv a4,bv a5,bv a6,bv a7,bv a8,bv a9,bv a10,bv a11,bv a12,bv a13,bv a14,bv a15,bv a16,bv a17,bv a18,bv a19,bv a20,bv a21,bv a22,bv a23,bv a24,bv a25,bv a26,bv a27,bv a28,bv a29,bv a30,bv a31]) : List Value).toArray from by
   have e : encS (some (u,v)) = (if v.val % 2 = 1 then 3 else 2) :: bytesS u.val:=rfl
   rw [e,hm,if_pos (by have q:=hb1.symm; rw [Nat.mod_eq_of_lt v.isLt] at q; exact of_decide_eq_true q)]
   rfl]
  exact Sy.ret1 (v:=.agg ((.int .u8 3 :: bv a0 :: bv a1 :: [bv a2,bv a3,bv a4,bv a5,bv a6,bv a7,bv a8,bv a9,bv a10,bv a11,bv a12,bv a13,bv a14,bv a15,bv a16,bv a17,bv a18,bv a19,bv a20,bv a21,bv a22,bv a23,bv a24,bv a25,bv a26,bv a27,bv a28,bv a29,bv a30,bv a31]) : List Value).toArray) rfl (.inl (Res.cell (ty':=139) g1 1 (.int .u8 3 :: bv a0 :: bv a1 :: [bv a2,bv a3,bv a4,bv a5,bv a6,bv a7,bv a8,bv a9,bv a10,bv a11,bv a12,bv a13,bv a14,bv a15,bv a16,bv a17,bv a18,bv a19,bv a20,bv a21,bv a22,bv a23,bv a24,bv a25,bv a26,bv a27,bv a28,bv a29,bv a30,bv a31]).toArray _ kR kR Tryz.underlying139 rfl kR kR))
theorem enc_any (w : World) (x y : Nat) (i : Bool) (hx : x < K4) (hy : y < K4) : Calls Tryz.prog 92 #[pv x y i] w (Gets w (.agg ((encS (dec x y i)).map bv).toArray)):=by
 rcases h : dec x y i with _ | ⟨u,v⟩
 ·exact enc_none w x y i hx hy h
 ·exact enc_some w x y i hx hy u v h
end Cu
end
section
namespace Cu
open Go.RowKit Sy
set_option maxRecDepth 100000
set_option maxHeartbeats 4000000
end Cu
end
section
namespace Cu
open Go.RowKit Sy
theorem setAll_all : ∀ (vs : List Value) (o : Nat) (cs : Array Value),o + vs.length = cs.size → setAll cs o vs = (cs.toList.take o ++ vs).toArray
 | [],o,cs,h => by
  rw [List.append_nil,List.take_of_length_le (by simp at h ⊢; omega)]
  simp [setAll]
 | v :: r,o,cs,h => by
  have hlt : o < cs.size:=by simp at h; omega
  rw [setAll,setAll_all r (o + 1) _ (by simp at h ⊢; omega)]
  congr 1
  rw [Array.toList_setIfInBounds,List.take_set,List.take_succ_eq_append_getElem (by simpa using hlt),List.set_append_right _ _ (by rw [List.length_take]; exact Nat.min_le_left _ _)]
  have : (cs.toList.take o).length = o:=by simp; omega
  simp [this]
theorem key_set (cs : Array Value) (l : List UInt8) (h : l.length = cs.size) : setAll cs 0 (l.map bv).toArray.toList = (l.map bv).toArray:=by
 have:=setAll_all (l.map bv) 0 cs (by simp; omega)
 simpa using this
theorem key_sz (l : List UInt8) {n : Nat} (h : l.length = n) : (l.map bv).toArray.size = n:=by simp; omega
theorem key_one (l : List UInt8) : (l.map bv).toArray.all (·.oneCell') = true:=by simp [bv,Value.oneCell']
end Cu
end
section
namespace Sy
open Go.RowKit
def Lst (w : World) (s : Nat) (A : Option Addr) (n : Nat) (el : Nat → List Value) : Prop:=∃ g o,0 < n → A = some ⟨g,o,none⟩ ∧ g < w.heap.size ∧ ∀ j,j < n → w.rangeAt g (o + j * s) (el j)
theorem Lst.below {w w' : World} {s n : Nat} {A : Option Addr} {el : Nat → List Value} (h : Lst w s A n el) (hb : Below w.heap.size w w') : Lst w' s A n el:=by
 obtain ⟨g,o,h⟩:=h
 refine ⟨g,o,fun hn => ?_⟩
 obtain ⟨h1,h2,h3⟩:=h hn
 exact ⟨h1,Nat.lt_of_lt_of_le h2 hb.size,fun j hj i v hi => (Below.cell (p:=⟨g,o + j * s + i,none⟩) hb h2).trans (h3 j hj i v hi)⟩
section
variable {P : Program} {w0 : Base} {n : Nat} {F : Slots} {L : Blocks} {o : Oper}
theorem exec_atO (t e : TypeId) (x kx : Operand) (A : Option Addr) (g f len cap k s : Nat) (ki : IntKind) (hA : A = some ⟨g,f,none⟩) (ho : o.op = .indexAddr t x kx) (hx : evF F x = .slice A len cap) (hkx : evF F kx = .int ki (k : Int)) (ht : P.underlying t = some (.slice e)) (hsz : ∀ w,(sizeOf e).run P w = .ok s w) (hk : k < len) (w : World) :
  (execOp (evF F) o).run P w = .ok (.value (.pointer (some ⟨g,f + k * s,none⟩))) w:=by
 subst hA
 exact exec_at t e x kx g f len cap k s ki ho hx hkx ht hsz hk w
theorem Writes.row {g : Nat} {t : TypeId} {cs : Array Value} (ty : TypeId) (c : List Value) (m : Nat) (x y : Operand) (ho : o.op = .store ty x y) (hx : evF F x = .pointer (some ⟨g,0,none⟩)) (hy : evF F y = .agg c.toArray) (hi : (P.info? ty).map (·.size) = some m) (hc : c.length = m) (hs : cs.size = m) (h1 : ∀ u ∈ c,u.oneCell' = true) : Writes P F o g t cs c.toArray :=
 Writes.store 0 ty c.toArray x y ho hx hy (by rw [hi,List.size_toArray,hc]) (by rw [List.size_toArray,hc,hs,Nat.zero_add]; exact Nat.le_refl _) (by rw [List.all_toArray,List.all_eq_true]; exact h1) (by
  have:=Cu.setAll_all c 0 cs (by omega)
  simpa using this)
theorem Quiet.mid (i g f k : Nat) (t ty : TypeId) (cs m : List Value) (d : TypeDesc) (x : Operand) (ho : o.op = .load ty x) (hx : evF F x = .pointer (some ⟨g,f,none⟩)) (hL : L[i]? = some (g,t,cs.toArray)) (hu : P.underlying ty = some d) (hd : d.isRow = true) (hi : (P.info? ty).map (·.size) = some k) (hm : (cs.drop f).take k = m) (hk : f + k ≤ cs.length) : Quiet P w0 F L o (.agg m.toArray) :=
 Quiet.load i g f k t ty cs.toArray d x ho hx hL hu hd hi _ (by rw [← hm]) (by simpa using hk)
end
def sgc (z : Int) (l : List UInt8) : List Value:=.int .i64 z :: l.map bv
theorem sgc_len (z : Int) {l : List UInt8} {n : Nat} (h : l.length = n) : (sgc z l).length = n + 1:=by simp [sgc,h]
theorem sgc_one (z : Int) (l : List UInt8) : ∀ u ∈ sgc z l,u.oneCell' = true:=fun u hu => by
 rcases List.mem_cons.1 hu with rfl | hu
 ·rfl
 ·obtain ⟨b,_,rfl⟩:=List.mem_map.1 hu
  rfl
theorem sgc_mid (z : Int) {l : List UInt8} {n : Nat} (h : l.length = n) : ((sgc z l).drop 1).take n = l.map bv:=by
 show (l.map bv).take n = _
 rw [List.take_of_length_le (by simp; omega)]
end Sy
end
section
namespace Sh
open Go.ChangeShapes Go.WideShapes Go.ChangeAt Go.RowKit Go.Deep
instance : Inhabited Tx:=⟨⟨none,[],0⟩⟩
end Sh
end
section
namespace Cu
open Go.ChangeShapes Go.WideShapes Go.ChangeAt Go.RowKit Sy Go.Deep
theorem bulk_pos {H : Type} (d : DataW H) : 1 ≤ Rows.uptoBulk d:=by
 cases d with
 | lit l => cases l <;> simp [Rows.uptoBulk]
 | _ => simp [Rows.uptoBulk]
theorem bulk_len {H : Type} : ∀ l : List (DataW H),l.length ≤ Rows.uptoBulkAll l
 | [] => Nat.zero_le _
 | d :: r => by
  have h1:=bulk_pos d
  have h2:=bulk_len r
  simp only [Rows.uptoBulkAll,List.length_cons]
  omega
theorem lst_of {w : World} {s n : Nat} {A : Option Addr} {el : Nat → List Value} (h : 0 < n → ∃ b o,A = some ⟨b,o,none⟩ ∧ b < w.heap.size ∧ ∀ j,j < n → w.rangeAt b (o + j * s) (el j)) : Lst w s A n el:=by
 rcases Nat.eq_zero_or_pos n with h0 | h0
 ·exact ⟨0,0,fun h1 => absurd h1 (by omega)⟩
 ·obtain ⟨b,o,q⟩:=h h0
  exact ⟨b,o,fun _ => q⟩
theorem open_listC {α : Type} [Inhabited α] (cells : α → List Value) (ok : α → Prop) (s : Nat) (hs : 0 < s) (hc : ∀ x,(cells x).length = s) (h0 : ok default) {H : Type} {enc : TypeId × Value → H} {P : Program} {W : World} {t e : TypeId} {fuel : Nat} {cs : List Value} {x : DataW H × List MemPlace}
  (ht : P.underlying t = some (.slice e)) (hce : P.cellsOf e = s) (hel : ∀ (fuel : Nat) (cs : List Value) (x : DataW H × List MemPlace),cs.length = s → DataW.trod enc P W 0 (fun _ => true) true fuel e cs = some x → ∃ y,ok y ∧ cs = cells y)
  (hf : DataW.trod enc P W 0 (fun _ => true) true fuel t cs = some x) :
  ∃ (A : Option Addr) (m c : Nat) (T : Nat → α),cs = [.slice A m c] ∧ (∀ j,ok (T j)) ∧ Lst W s A m (fun j => cells (T j)) ∧ m ≤ Rows.uptoBulk x.1:=by
 rcases open_slice ht hf with ⟨hcs,hx⟩ | ⟨a,len,cap,m,n,D,Pl,hcs,_,hl,hm,hme,hx,hall⟩
 ·exact ⟨none,0,0,fun _ => default,hcs,fun _ => h0,lst_of fun hn => absurd hn (Nat.lt_irrefl _),Nat.zero_le _⟩
 ·simp only [if_true] at hme
  subst hme
  rw [hce] at hall
  obtain ⟨X,hX0,hX⟩:=choose_ltL (α:=α) (n:=len) (p:=fun i x => ok x ∧ W.cells? 0 (a.add (i * s)) s = some (cells x)) (fun i hi => by
   obtain ⟨cs',h1,h2⟩:=hall i (by omega)
   obtain ⟨y,hy,rfl⟩:=hel _ _ _ (cells_lenL h1) h2
   exact ⟨y,hy,h1⟩) ok h0 (fun _ _ hp => hp.1)
  refine ⟨some a,len,m,X,hcs,hX0,lst_of fun hpos => ?_,?_⟩
  ·obtain ⟨_,hc0⟩:=hX 0 hpos
   obtain ⟨v0,hv0⟩ : ∃ v0,(cells (X 0))[0]? = some v0:=⟨(cells (X 0))[0]'(by rw [hc]; exact hs),List.getElem?_eq_getElem _⟩
   have hcell : W.cell? a = some v0:=by
    have:=cells_eachL hc0 0 v0 hv0
    simpa [Addr.add] using this
   obtain ⟨b,o,rfl,hlt⟩:=cell_spotL hcell
   refine ⟨b,o,rfl,hlt,fun j hj i v hi => ?_⟩
   have:=cells_eachL (hX j hj).2 i v hi
   rwa [add_midL,add_midL] at this
  ·subst hx
   have:=bulk_len ((List.range len).map D)
   simp only [Rows.uptoBulk]
   simp only [List.length_map,List.length_range] at this
   omega
end Cu
end
section
namespace Cu
open Go.ChangeShapes Go.WideShapes Go.ChangeAt Go.RowKit Sy Go.Deep
abbrev Nm4:={ n : Nat // n < K4 }
instance : Inhabited Nm4:=⟨⟨0,by decide⟩⟩
set_option maxRecDepth 100000 in
theorem open_scalars {H : Type} {enc : TypeId × Value → H} {W : World} {r : Reach} {b0 : Nat} {v : Value} {d : DataW H} {ps : List MemPlace}
  (hval : Value.okWide Tryz.prog W r b0 41 v) (h : DataW.Trod enc Tryz.prog W 0 (fun _ => true) true 41 v d ps) : ∃ (B : Option Addr) (M e : Nat) (x : Nat → Nat),v = .slice B M e ∧ (∀ i,x i < K4) ∧ M ≤ Rows.uptoBulk d ∧ Lst W 4 B M (fun i => fws (x i)):=by
 obtain ⟨a0,len,cap,rfl⟩:=okWide_slice Tryz.underlying41 hval
 obtain ⟨fuel,hf⟩:=h
 obtain ⟨A,N,c,K,e1,_,hls,hN⟩:=open_listC (P:=Tryz.prog) (fun x : Nm4 => fws x.1) (fun _ => True) 4 (by decide) (fun x => rfl) trivial Tryz.underlying41 (by kernel_rfl)
  (fun fuel cs x hl hf => by
   obtain ⟨k,hk,e⟩:=four_words hl (P:=Tryz.prog) Tryz.underlying24 Tryz.underlying22 (by kernel_rfl) hf
   exact ⟨⟨k,hk⟩,trivial,e⟩) hf
 simp [Value.cells] at e1
 obtain ⟨rfl,rfl,rfl⟩:=e1
 exact ⟨_,_,_,fun i => (K i).1,rfl,fun i => (K i).2,hN,hls⟩
end Cu
end
section
namespace Sy
open Go.RowKit Go.ChangeShapes Go.WideShapes Go.MapKept Go.ChangeMaps Go.WideElems
open Go.WideMaps (KeyLaw ArrKey)
abbrev Base.re (w0 : Base) (w : World) : Base:=⟨w0.world,w,w0.ds,w0.fence,w0.room⟩
structure Mp (w0 : Base) (b : Nat) (es : Array MapEntry) (clock : Nat) : Prop where
 here : w0.fz.heap[b]? = some (.map es clock)
 own : w0.world.heap.size ≤ b
theorem Mp.now {w0 : Base} {b : Nat} {es : Array MapEntry} {clock : Nat} {w : World} {L : Blocks} (h : Mp w0 b es clock) (hw : St w0 w L) : w.heap[b]? = some (.map es clock):=hw.non b _ h.own h.here rfl
theorem St.setMap {w0 : Base} {b : Nat} {es es' : Array MapEntry} {clock clock' : Nat} {w : World} {L : Blocks} (hw : St w0 w L) (h : w.heap[b]? = some (.map es clock)) (hb : w0.world.heap.size ≤ b) :
  St (w0.re (setBlock w b (.map es' clock'))) (setBlock w b (.map es' clock')) L ∧ Mp (w0.re (setBlock w b (.map es' clock'))) b es' clock':=by
 have far : ∀ k,k ≠ b → (setBlock w b (.map es' clock')).heap[k]? = w.heap[k]?:=fun k hk => (heap_set h).2 k hk
 have hsz : (setBlock w b (.map es' clock')).heap.size = w.heap.size:=by simp [setBlock]
 refine ⟨⟨hw.below.trans ⟨rfl,rfl,rfl,by rw [hsz]; exact Nat.le_refl _,fun k hk => far k (by omega)⟩,fun g t cs hm => ?_,hw.apart,Nat.le_refl _,fun _ _ _ h _ => h⟩,(heap_set h).1,hb⟩
 have hg:=hw.blk g t cs hm
 refine ⟨hg.1,?_⟩
 have hne : g ≠ b:=fun e => by
  subst e
  have h2:=hg.2
  unfold Blk at h2
  rw [h2] at h
  cases h
 exact (far g hne).trans hg.2
section
variable {P : Program} {w0 : Base} {n : Nat} {Q : Exit → Act → World → Prop} {F : Slots} {L : Blocks} {ops : Array Oper} {o : Oper} {l : List Oper} {ex : Nat → Bool} {fuel : Nat} {listed : Array Bool}
theorem makeMapS (hg : good ops n F o = true) (t : TypeId) (ho : o.op = .makeMap t none) (h : ∀ b w',Mp (w0.re w') b #[] 0 → wpS P (w0.re w') n ops Q (putF F o.dst (.map (some b))) L l) : wpS P w0 n ops Q F L (o :: l):=fun a w ha hw => by
 obtain ⟨k1,_,k3,_⟩:=good_spec hg
 refine wpList_step fun K hK => ?_
 rw [if_pos (ha.wanted k1)]
 unfold Oper.wp
 rw [good_exec hg ha]
 have hr : (execOp (evF F) o).run P w = .ok (.value (.map (some w.heap.size))) (w.alloc (.map #[] 0)):=by
  unfold execOp
  simp [ho,Instr.makeMap,Result.andThen]
 rw [hr]
 have hgr:=(Below.refl w.heap.size w).alloc (Nat.le_refl _) (.map #[] 0)
 have hst:=hw.gr hgr
 exact hK _ _ (h w.heap.size (w.alloc (.map #[] 0)) ⟨(heap_alloc w _).1,hw.below.size⟩ _ _ (ha.put k3 _) ⟨hst.below,hst.blk,hst.apart,Nat.le_refl _,fun _ _ _ h _ => h⟩)
theorem oneMap {i : Nat} {oi : Oper} (hi0 : ops.toList[i]? = some oi) (hex : ex i = true) (hg : good ops n F oi = true) {b : Nat} {es : Array MapEntry} {clock : Nat} (hm : Mp w0 b es clock) (R : Value → Array MapEntry → Nat → Prop)
  (hrun : ∀ w,w.heap[b]? = some (.map es clock) → ∃ v es' clock',((execOp (evF F) oi).run P w = .ok (.value v) (setBlock w b (.map es' clock')) ∨ ((execOp (evF F) oi).run P w = .ok .skip (setBlock w b (.map es' clock')) ∧ v = undef)) ∧ R v es' clock')
  (h : ∀ v es' clock' w',R v es' clock' → Mp (w0.re w') b es' clock' → wpD P (w0.re w') n ops Q ex (putF F oi.dst v) L fuel (listed.setIfInBounds i true)) : wpO P w0 n ops Q ex F L fuel listed i :=
 ⟨oi,by simpa using hi0,(good_spec hg).1,fun a w ha hw w1 h1 K hK => by
  have hw1:=hw.gr h1
  have hb:=hm.now hw1
  obtain ⟨v,es',clock',hr,hR⟩:=hrun w1 hb
  obtain ⟨hs,hm'⟩:=hw1.setMap (es':=es') (clock':=clock') hb hm.own
  unfold Oper.wp
  rw [good_exec hg ha]
  rcases hr with hr | ⟨hr,rfl⟩ <;> rw [hr] <;> exact hK _ _ (fun e => by rw [hex] at e; cases e) (h _ _ _ _ hR hm' _ _ (ha.put (good_spec hg).2.2.1 _) hs)⟩
theorem oneLook {i : Nat} {oi : Oper} (hi0 : ops.toList[i]? = some oi) (hg : good ops n F oi = true) {b : Nat} {es : Array MapEntry} {clock : Nat} (hm : Mp w0 b es clock) (R : Value → Prop)
  (hrun : ∀ w,w.heap[b]? = some (.map es clock) → ∃ v,(execOp (evF F) oi).run P w = .ok (.value v) w ∧ R v) (h : ∀ v,R v → wpD P w0 n ops Q ex (putF F oi.dst v) L fuel (listed.setIfInBounds i true)) : wpO P w0 n ops Q ex F L fuel listed i :=
 ⟨oi,by simpa using hi0,(good_spec hg).1,fun a w ha hw w1 h1 K hK => by
  have hw1:=hw.gr h1
  obtain ⟨v,hr,hR⟩:=hrun w1 (hm.now hw1)
  unfold Oper.wp
  rw [good_exec hg ha,hr]
  exact hK _ _ (fun _ => Gr.refl _) (h _ hR _ _ (ha.put (good_spec hg).2.2.1 _) hw1)⟩
theorem Quiet.lenMap (t : TypeId) (x : Operand) {b : Nat} {es : Array MapEntry} {clock : Nat} (hm : Mp w0 b es clock) (ho : o.op = .call { callee:=.builtin .len,args:=#[x],argTypes:=#[t] }) (hx : evF F x = .map (some b)) (ht : P.underlying t = some (.map (P.mapKeyOf t) (P.mapElemOf t))) : Quiet P w0 F L o (.int .i64 (es.size : Int)):=fun w hw => by
 have h:=run_len_map (P:=P) (w:=w) t o.type b es clock ht (hm.now hw)
 unfold Gives execOp
 simp only [ho,resolve,invoke,builtin,Sem.run_bind,Sem.run_pure,Result.andThen_ok,List.map_toArray,List.map_cons,List.map_nil,hx,h]
 exact ⟨rfl,Gr.refl _⟩
theorem exec_look {t : TypeId} {x k : Operand} {b : Nat} {key v : Value} {w : World} (ho : o.op = .lookup t x k false) (hx : evF F x = .map (some b)) (hk : evF F k = key) (h : (Instr.lookup t (.map (some b)) key false).run P w = .ok v w) : (execOp (evF F) o).run P w = .ok (.value v) w:=by
 unfold execOp
 simp only [ho,hx,hk,Sem.run_bind,h,Result.andThen_ok,Sem.run_pure]
theorem exec_entry {t : TypeId} {x k : Operand} {b : Nat} {key v : Value} {w w' : World} (ho : o.op = .mapEntry t x k) (hx : evF F x = .map (some b)) (hk : evF F k = key) (h : (Instr.mapEntry t (.map (some b)) key).run P w = .ok v w') : (execOp (evF F) o).run P w = .ok (.value v) w':=by
 unfold execOp
 simp only [ho,hx,hk,Sem.run_bind,h,Result.andThen_ok,Sem.run_pure]
theorem exec_estore {t : TypeId} {x s y : Operand} {b : Nat} {sv v : Value} {w w' : World} (ho : o.op = .entryStore t x s y) (hx : evF F x = .map (some b)) (hs : evF F s = sv) (hy : evF F y = v) (h : (Instr.entryStore t (.map (some b)) sv v).run P w = .ok () w') : (execOp (evF F) o).run P w = .ok .skip w':=by
 unfold execOp
 simp only [ho,hx,hs,hy,Sem.run_bind,h,Result.andThen_ok,Sem.run_pure]
def NextM (w0 : Base) (n N b : Nat) (FF : Nat → Slots) (LL : Nat → Blocks) (H : Nat → Array MapEntry → Nat → Prop) (k : Nat) : Act → World → Prop:=fun a w => k < N ∧ ∃ fz es clock,H (k + 1) es clock ∧ Mp (w0.re fz) b es clock ∧ Fr w0.ds a n (FF (k + 1)) ∧ St (w0.re fz) w (LL (k + 1))
theorem loopM {c : Code} (N b : Nat) (FF : Nat → Slots) (LL : Nat → Blocks) (H : Nat → Array MapEntry → Nat → Prop) {es : Array MapEntry} {clock : Nat} (m : List Bool) (hm : Mp w0 b es clock) (h0 : H 0 es clock) (hF : ∀ p ∈ FF 0,F.lookup p.1 = some p.2) (hL : sel L m = LL 0)
  (hr : ∀ k es clock fz,k ≤ N → H k es clock → Mp (w0.re fz) b es clock → wpC P (w0.re fz) n (Exit.then (NextM w0 n N b FF LL H k) Q) (FF k) (LL k) c) : wpC P w0 n Q F L (.loop c) :=
 loopI N (fun k a w => ∃ fz es clock,H k es clock ∧ Mp (w0.re fz) b es clock ∧ Fr w0.ds a n (FF k) ∧ St (w0.re fz) w (LL k)) (fun _ _ ha hw => ⟨w0.fz,es,clock,h0,hm,ha.all hF,hL ▸ hw.less (sel_sub L m)⟩)
  fun k hk a w ⟨fz,es,clock,hx,hp,ha,hw⟩ => hr k es clock fz hk hx hp a w ha hw
theorem againM {N b : Nat} {FF : Nat → Slots} {LL : Nat → Blocks} {H : Nat → Array MapEntry → Nat → Prop} {k : Nat} {R : Exit → Act → World → Prop} {fz : World} {es : Array MapEntry} {clock : Nat} (m : List Bool) (hk : k < N) (hy : H (k + 1) es clock) (hp : Mp (w0.re fz) b es clock) (hF : ∀ p ∈ FF (k + 1),F.lookup p.1 = some p.2) (hL : sel L m = LL (k + 1)) :
  X (w0.re fz) n (Exit.then (NextM w0 n N b FF LL H k) R) F L .normal:=fun _ _ ha hw => ⟨hk,fz,es,clock,hy,hp,ha.all hF,hL ▸ hw.less (sel_sub L m)⟩
theorem St.ofRe {w1 fz w : World} (h : St ((Base.of w1).re fz) w L) : St (Base.of w1) w L:=⟨h.below,h.blk,h.apart,h.below.size,fun k o hk ho _ => absurd (Array.getElem?_eq_some_iff.1 ho).1 (by show ¬ k < w1.heap.size; have : w1.heap.size ≤ k:=hk; omega)⟩
theorem outM {w1 fz : World} {e : Exit} (h : X (Base.of w1) n Q F L e) : X ((Base.of w1).re fz) n Q F L e:=fun a w ha hw => h a w ha hw.ofRe
end
structure Ents (es : Array MapEntry) (clock : Nat) (ks : List Value) : Prop where
 stamped : Stamped es clock
 keys : es.toList.map (·.key) = ks
 vals : ∀ x ∈ es.toList, ∃ z : Int,x.val = .int .i64 z
theorem Ents.empty : Ents #[] 0 []:=⟨stamped_empty 0,rfl,fun _ h => by cases h⟩
theorem Ents.size {es : Array MapEntry} {clock : Nat} {ks : List Value} (h : Ents es clock ks) : es.size = ks.length:=by
 rw [← h.keys,List.length_map,Array.length_toList]
section
variable {P : Program} {t k e : TypeId} {es : Array MapEntry} {clock : Nat} {ks : List Value}
theorem Ents.look (h : Ents es clock ks) (K : KeyLaw P k) (ht : P.underlying t = some (.map k e)) (hz : ∀ u : World,(zeroValue e).run P u = .ok (.int .i64 0) u) (hk : ∀ x ∈ ks, ∃ l,keyOf P k x = some l) {key : Value} {kl : Lit} (hkey : keyOf P k key = some kl) {w : World} {b : Nat} (hb : w.heap[b]? = some (.map es clock)) :
  ∃ z : Int,(Instr.lookup t (.map (some b)) key false).run P w = .ok (.int .i64 z) w:=by
 rcases K.find w hkey es.toList (fun x hx => hk x.key (by rw [← h.keys]; exact List.mem_map.2 ⟨x,hx,rfl⟩)) with ⟨h1,h2⟩ | ⟨j,e0,h1,h2,h3⟩
 ·exact ⟨0,by simp [Instr.lookup,run_underlying ht,MapKept.run_getObj_map hb,K.check w _ hkey,h1,hz,Result.andThen]⟩
 ·obtain ⟨z,hv⟩:=h.vals e0 (List.mem_of_getElem? h2)
  exact ⟨z,by simp [Instr.lookup,run_underlying ht,MapKept.run_getObj_map hb,K.check w _ hkey,h1,hv,Result.andThen]⟩
open Classical in
noncomputable def addK (ks : List Value) (x : Value) : List Value:=if x ∈ ks then ks else ks ++ [x]
theorem addK_old {ks : List Value} {x : Value} (h : x ∈ ks) : addK ks x = ks:=if_pos h
theorem addK_new {ks : List Value} {x : Value} (h : x ∉ ks) : addK ks x = ks ++ [x]:=if_neg h
theorem Ents.entry (h : Ents es clock ks) (K : KeyLaw P k) (ht : P.underlying t = some (.map k e)) (hz : ∀ u : World,(zeroValue e).run P u = .ok (.int .i64 0) u) (hk : ∀ x ∈ ks, ∃ l,keyOf P k x = some l) {key : Value} {kl : Lit} (hkey : keyOf P k key = some kl) {w : World} {b : Nat} (hb : w.heap[b]? = some (.map es clock)) :
  ∃ (v0 : Value) (st : Nat) (es1 : Array MapEntry) (clock1 : Nat),(Instr.mapEntry t (.map (some b)) key).run P w = .ok (.tuple #[v0,goInt st]) (setBlock w b (.map es1 clock1)) ∧ Ents es1 clock1 (addK ks key) ∧
   ∀ (w2 : World) (z : Int),w2.heap[b]? = some (.map es1 clock1) → ∃ es' clock',(Instr.entryStore t (.map (some b)) (goInt st) (.int .i64 z)).run P w2 = .ok () (setBlock w2 b (.map es' clock')) ∧ Ents es' clock' (addK ks key):=by
 obtain ⟨s1,s2,s3⟩:=h.stamped
 rcases K.find w hkey es.toList (fun x hx => hk x.key (by rw [← h.keys]; exact List.mem_map.2 ⟨x,hx,rfl⟩)) with ⟨h1,h2⟩ | ⟨j,e0,h1,h2,h3⟩
 ·have hnew : key ∉ ks:=fun hm => by
   rw [← h.keys] at hm
   obtain ⟨x,hx,e1⟩:=List.mem_map.1 hm
   exact h2 x hx e1
  have made : ∀ z : Int,Ents (es.push ⟨key,.int .i64 z,clock⟩) (clock + 1) (addK ks key):=fun z =>
   ⟨stamped_push h.stamped h2,by rw [addK_new hnew,Array.toList_push,List.map_append,h.keys]; rfl,fun x hx => by
    rw [Array.toList_push,List.mem_append] at hx
    rcases hx with hx | hx
    ·exact h.vals x hx
    ·rw [List.mem_singleton.1 hx]; exact ⟨z,rfl⟩⟩
  refine ⟨.int .i64 0,clock,es.push ⟨key,.int .i64 0,clock⟩,clock + 1,?_,made 0,fun w2 z hw2 => ⟨es.push ⟨key,.int .i64 z,clock⟩,clock + 1,?_,made z⟩⟩
  ·simp [Instr.mapEntry,run_underlying ht,MapKept.run_getObj_map hb,K.check w false hkey,h1,hz,MapKept.run_setObj_map _ hb,Result.andThen,setBlock]
  ·have hidx : (es.push ⟨key,.int .i64 0,clock⟩).findIdx? (fun e => ((e.born : Nat) : Int) == ((clock : Nat) : Int)) = some es.size:=by
    rw [findIdx_arr]
    have:=findIdx_born (l:=(es.push ⟨key,.int .i64 0,clock⟩).toList) (j:=es.size) (e0:=⟨key,.int .i64 0,clock⟩) (made 0).stamped.2.1 (by simp)
    exact this
   have hmod : (es.push ⟨key,.int .i64 0,clock⟩).modify es.size (fun e => { e with val:=.int .i64 z }) = es.push ⟨key,.int .i64 z,clock⟩:=by
    apply Array.ext'
    rw [Array.toList_modify,Array.toList_push,Array.toList_push, ← Array.length_toList,modify_last]
   simp [Instr.entryStore,MapKept.run_getObj_map hw2,asInt,asIntOf,goInt,hidx,hmod,MapKept.run_setObj_map _ hw2,Result.andThen,setBlock]
 ·have hj : es[j]? = some e0:=by simpa using h2
  have hold : key ∈ ks:=by
   rw [← h.keys, ← h3]
   exact List.mem_map.2 ⟨e0,List.mem_of_getElem? h2,rfl⟩
  have hsame : es.modify j (fun e => { e with key:=key }) = es:=by
   apply Array.ext'
   rw [Array.toList_modify,modify_eq_set _ _ _ _ h2]
   have : ({ e0 with key:=key } : MapEntry) = e0:=by rw [← h3]
   rw [this]
   exact set_self _ _ _ h2
  obtain ⟨z0,hv0⟩:=h.vals e0 (List.mem_of_getElem? h2)
  refine ⟨e0.val,e0.born,es,clock,?_,by rw [addK_old hold]; exact h,fun w2 z hw2 => ⟨es.modify j (fun e' => { e' with val:=.int .i64 z }),clock,?_,?_⟩⟩
  ·simp [Instr.mapEntry,run_underlying ht,MapKept.run_getObj_map hb,K.check w false hkey,h1,hj,h3,K.stays w hkey,hsame,MapKept.run_setObj_map _ hb,Result.andThen,setBlock]
  ·have hidx : es.findIdx? (fun e => ((e.born : Nat) : Int) == ((e0.born : Nat) : Int)) = some j:=by
    rw [findIdx_arr]
    exact findIdx_born s2 h2
   simp [Instr.entryStore,MapKept.run_getObj_map hw2,asInt,asIntOf,goInt,hidx,MapKept.run_setObj_map _ hw2,Result.andThen,setBlock]
  ·rw [addK_old hold]
   refine ⟨stamped_modify h.stamped j _ (fun _ _ => rfl) (fun _ _ _ => rfl),(modify_keys j (fun e' : MapEntry => { e' with val:=.int .i64 z }) (fun _ _ => rfl)).trans h.keys,fun x hx => ?_⟩
   rcases MapFrom.mem_modify hx with hx | ⟨e,he,rfl⟩
   ·exact h.vals x hx
   ·exact ⟨z,rfl⟩
end
theorem keyOf_bytes {P : Program} {k e : TypeId} {n : Nat} (A : ArrKey P k e n) (he : P.underlying e = some (.int .u8)) (hsz : ∃ m,P.types.size = m + 1) {l : List UInt8} (hl : l.length = n) : ∃ kl,keyOf P k (.agg (l.map bv).toArray) = some kl:=by
 have hkt:=A.keyType hsz
 obtain ⟨m,hm⟩:=hsz
 unfold keyOf
 simp only [A.hu]
 rw [if_pos (by simp [hkt,Value.formed,A.hu,A.size,hl]),hm]
 unfold Program.keyLits
 simp only [A.hu,Value.cells]
 rw [if_pos (by rw [A.size]; simpa using hl)]
 have key : ∀ (L : List Nat),(∀ i ∈ L,i < n) → ∃ ys,L.mapM (fun i => P.keyLits (m + 1) e (((l.map bv).toArray.toList.drop (i * P.cellsOf e)).take (P.cellsOf e))) = some ys:=by
  intro L
  induction L with
  | nil => exact fun _ => ⟨[],rfl⟩
  | cons i L ih =>
   intro hL
   obtain ⟨ys,hys⟩:=ih fun j hj => hL j (List.mem_cons_of_mem _ hj)
   have hi : i < l.length:=by
    rw [hl]
    exact hL i (List.mem_cons_self ..)
   have hd : ((l.map bv).toArray.toList.drop (i * P.cellsOf e)).take (P.cellsOf e) = [bv l[i]]:=by
    rw [A.one,Nat.mul_one]
    show ((l.map bv).drop i).take 1 = _
    rw [List.drop_eq_getElem_cons (by simpa using hi)]
    simp
   have hw : (Lit.int .u8 (l[i].toNat : Int)).wf = true:=by
    have:=l[i].toNat_lt
    simp [Lit.wf,IntKind.min,IntKind.max,IntKind.signed,IntKind.bits]
    omega
   rw [List.mapM_cons,hys,hd]
   exact ⟨[.int .u8 (l[i].toNat : Int)] :: ys,by simp [Program.keyLits,he,bv,hw]⟩
 obtain ⟨ys,hys⟩:=key (List.range n) (fun i hi => List.mem_range.1 hi)
 rw [hys]
 exact ⟨_,rfl⟩
noncomputable def dist (f : Nat → Value) : Nat → List Value
 | 0 => []
 | k + 1 => addK (dist f k) (f k)
theorem dist_mem (f : Nat → Value) : ∀ k x,x ∈ dist f k ↔ ∃ i,i < k ∧ f i = x
 | 0,x => by simp [dist]
 | k + 1,x => by
  have ih:=dist_mem f k
  show x ∈ addK (dist f k) (f k) ↔ _
  by_cases h : f k ∈ dist f k
  ·rw [addK_old h,ih]
   constructor
   ·rintro ⟨i,hi,e⟩
    exact ⟨i,by omega,e⟩
   ·rintro ⟨i,hi,e⟩
    by_cases hk : i = k
    ·subst hk
     rw [← e]
     exact (ih _).1 h
    ·exact ⟨i,by omega,e⟩
  ·rw [addK_new h,List.mem_append,List.mem_singleton,ih]
   constructor
   ·rintro (⟨i,hi,e⟩ | e)
    ·exact ⟨i,by omega,e⟩
    ·exact ⟨k,by omega,e.symm⟩
   ·rintro ⟨i,hi,e⟩
    by_cases hk : i = k
    ·subst hk
     exact .inr e.symm
    ·exact .inl ⟨i,by omega,e⟩
theorem dist_len (f : Nat → Value) : ∀ k,(dist f k).length ≤ k
 | 0 => Nat.le_refl _
 | k + 1 => by
  have ih:=dist_len f k
  show (addK (dist f k) (f k)).length ≤ _
  by_cases h : f k ∈ dist f k
  ·rw [addK_old h]; omega
  ·rw [addK_new h]; simp; omega
theorem dist_all (f : Nat → Value) : ∀ k,(dist f k).length = k ↔ ∀ i j,i < j → j < k → f i ≠ f j
 | 0 => by simp [dist]
 | k + 1 => by
  have ih:=dist_all f k
  have hl:=dist_len f k
  show (addK (dist f k) (f k)).length = _ ↔ _
  by_cases h : f k ∈ dist f k
  ·rw [addK_old h]
   obtain ⟨i,hi,e⟩:=(dist_mem f k _).1 h
   exact ⟨fun h2 => absurd h2 (by omega),fun h2 => absurd e (h2 i k hi (by omega))⟩
  ·rw [addK_new h,List.length_append,List.length_singleton]
   constructor
   ·intro h2 i j hij hj
    by_cases hk : j = k
    ·subst hk
     exact fun e => h ((dist_mem f _ _).2 ⟨i,hij,e⟩)
    ·exact ih.1 (by omega) i j hij (by omega)
   ·intro h2
    have:=ih.2 fun i j hij hj => h2 i j hij (by omega)
    omega
end Sy
end
section
namespace Cu
open Go.RowKit Sy
theorem eql_key (w : World) (F : Slots) (o : Oper) (x y : Operand) (a b : List UInt8) (ha : a.length = 32) (hb : b.length = 32) {yt : TypeId} (ho : o.op = .binOp .eql 31 x y yt) (hx : evF F x = .agg (a.map bv).toArray) (hy : evF F y = .agg (b.map bv).toArray) : (execOp (evF F) o).run Tryz.prog w = .ok (.value (.bool (decide (a = b)))) w:=by
 have h1 : (eqGuard .eql 31 x y (.agg (a.map bv).toArray) (.agg (b.map bv).toArray)).run Tryz.prog w = .ok () w:=by go_simp
 have h2 : (binOp .eql 31 (.agg (a.map bv).toArray) (.agg (b.map bv).toArray)).run Tryz.prog w = .ok (.bool (decide (a = b))) w:=by
  have h:=run_equalIn_bytes (P:=Tryz.prog) w 9998 31 5 32 Tryz.underlying31 Tryz.underlying5 (fun W => by kernel_rfl) a b ha hb
  rw [run_eql_struct,show (10000 : Nat) = 9998 + 2 from rfl,show (Op.equalIn (9998 + 2) 31 (.agg (a.map bv).toArray) (.agg (b.map bv).toArray)).run Tryz.prog w = _ from h]
  by_cases e : a = b <;> simp [e]
 unfold execOp
 simp only [ho,hx,hy,Sem.run_bind,h1,h2,Result.andThen_ok,Sem.run_pure]
end Cu
end
section
namespace Sc
open Go.RowKit Go.Lib
theorem gap_any (w : World) : Calls Tryz.prog 149 #[] w fun e w' => e = .returned (fv 432420386565659656852420866394968145599) ∧ Below w.heap.size w w':=by
 go_enter Tryz.func149,Tryz.ntmps149
 go_wp2
 exact bodyPost_ret (results_cell_row rfl _ _ w.heap.size _ _ (0,0) _ rfl (heap_alloc_new w _) Tryz.underlying24 rfl kR) rfl ⟨rfl,(Below.refl _ _).alloc (Nat.le_refl _) _⟩
set_option maxHeartbeats 8000000 in
set_option maxRecDepth 100000 in
theorem plus_any (w : World) (x y : Nat) (hx : x < (2^256)) (hy : y < (2^256)) : Calls Tryz.prog 147 #[fv x,fv y] w fun e w' => (∃ s k : Nat,s < (2^256) ∧ k ≤ 1 ∧ s + (2^256) * k = x + y ∧ e = .returned (.tuple #[fv s,.int .u64 (k : Int)])) ∧ Below w.heap.size w w':=by
 obtain ⟨x0,x1,x2,x3,a0,a1,a2,a3,ex,fx⟩:=words_of x hx
 obtain ⟨y0,y1,y2,y3,b0,b1,b2,b3,ey,fy⟩:=words_of y hy
 rw [fx,fy]
 obtain ⟨s0,c0,d0,k0,e0,r0⟩:=add0_ex x0 y0 a0 b0
 obtain ⟨s1,c1,d1,k1,e1,r1⟩:=addc_ex x1 y1 c0 a1 b1 k0
 obtain ⟨s2,c2,d2,k2,e2,r2⟩:=addc_ex x2 y2 c1 a2 b2 k1
 obtain ⟨s3,c3,d3,k3,e3,r3⟩:=addc_ex x3 y3 c2 a3 b3 k2
 have fin : s0 + 18446744073709551616 * s1 + 340282366920938463463374607431768211456 * s2 + 6277101735386680763835789423207666416102355444464034512896 * s3 + (2^256) * c3 = x + y:=by omega
 have hs:=Lib.hid (fv_mk s0 s1 s2 s3 d0 d1 d2 d3)
 have hlt:=Lib.hid (fv_lt s0 s1 s2 s3 d0 d1 d2 d3)
 have HF:=Lib.hid fin
 have HK:=Lib.hid k3
 clear ex ey fx fy e0 e1 e2 e3 a0 a1 a2 a3 b0 b1 b2 b3 d0 d1 d2 d3 k0 k1 k2 k3 fin hx hy
 go_enter Tryz.func147,Tryz.ntmps147
 go_wp2_with fail
 go_loopw [5,7] (fun bo i wr => Below w.heap.size w wr ∧ Blk wr w.heap.size 24 #[.int .u64 (x0 : Int),.int .u64 (x1 : Int),.int .u64 (x2 : Int),.int .u64 (x3 : Int)] ∧ Blk wr (w.heap.size + 1) 24 #[.int .u64 (y0 : Int),.int .u64 (y1 : Int),.int .u64 (y2 : Int),.int .u64 (y3 : Int)] ∧ Hid ((i = .int .i64 0 ∧ bo = .int .u64 0 ∧ Blk wr (w.heap.size + 2) 24 #[.int .u64 0,.int .u64 0,.int .u64 0,.int .u64 0]) ∨ (i = .int .i64 1 ∧ bo = .int .u64 (c0 : Int) ∧ Blk wr (w.heap.size + 2) 24 #[.int .u64 (s0 : Int),.int .u64 0,.int .u64 0,.int .u64 0]) ∨ (i = .int .i64 2 ∧ bo = .int .u64 (c1 : Int) ∧ Blk wr (w.heap.size + 2) 24 #[.int .u64 (s0 : Int),.int .u64 (s1 : Int),.int .u64 0,.int .u64 0]) ∨ (i = .int .i64 3 ∧ bo = .int .u64 (c2 : Int) ∧ Blk wr (w.heap.size + 2) 24 #[.int .u64 (s0 : Int),.int .u64 (s1 : Int),.int .u64 (s2 : Int),.int .u64 0]) ∨ (i = .int .i64 4 ∧ bo = .int .u64 (c3 : Int) ∧ Blk wr (w.heap.size + 2) 24 #[.int .u64 (s0 : Int),.int .u64 (s1 : Int),.int .u64 (s2 : Int),.int .u64 (s3 : Int)]))) (fun _ i _ => 4 - (intOf i).toNat)
 case atStart => exact ⟨below_alloc3 w _ _ _,((Blk.new w _ _).alloc _).alloc _,(blk_new2 w _ _ _).alloc _,Lib.hid (.inl ⟨rfl,rfl,blk_new3 w _ _ _ _⟩)⟩
 case round =>
  obtain ⟨hb,BX,BY,HI⟩:=hrel
  have lX:=BX.lt
  have lY:=BY.lt
  rcases HI.out with ⟨rfl,rfl,BW⟩ | ⟨rfl,rfl,BW⟩ | ⟨rfl,rfl,BW⟩ | ⟨rfl,rfl,BW⟩ | ⟨rfl,rfl,BW⟩
  ·clear HI
   have px : wr.cell? ⟨w.heap.size,0,none⟩ = some (.int .u64 (x0 : Int)):=BX.cell 0
   have py : wr.cell? ⟨w.heap.size + 1,0,none⟩ = some (.int .u64 (y0 : Int)):=BY.cell 0
   go_wp2
   refine wp_region_G (fun j => j == 13) kR ?_
   try simp only [Act.put]
   refine tk 0 rfl ?_
   try simp only [Act.put,aA,aZ,aS]
   refine tk 1 rfl ?_
   try simp only [Act.put,aA,aZ,aS]
   refine tk 2 rfl ?_
   try simp only [Act.put,aA,aZ,aS]
   refine tkw 3 rfl (YieldsG.pure (v:=.int .u64 (x0 : Int)) (by rfl) (fun w9 h9 => by have hz:=(Below.cell (p:=⟨w.heap.size,0,none⟩) h9 lX).trans px; go_simp; first | done | simp [hz])) ?_
   try simp only [Act.put,aA,aZ,aS]
   refine tk 4 rfl ?_
   try simp only [Act.put,aA,aZ,aS]
   refine tk 5 rfl ?_
   try simp only [Act.put,aA,aZ,aS]
   refine tkw 6 rfl (YieldsG.pure (v:=.int .u64 (y0 : Int)) (by rfl) (fun w9 h9 => by have hz:=(Below.cell (p:=⟨w.heap.size + 1,0,none⟩) h9 lY).trans py; go_simp; first | done | simp [hz])) ?_
   try simp only [Act.put,aA,aZ,aS]
   refine tk 7 rfl ?_
   try simp only [Act.put,aA,aZ,aS]
   refine tkw 8 rfl (YieldsG.pure (v:=.tuple #[.int .u64 (s0 : Int),.int .u64 (c0 : Int)]) (by rfl) (fun w9 h9 => by go_simp)) ?_
   try simp only [Act.put,aA,aZ,aS]
   refine tk 9 rfl ?_
   try simp only [Act.put,aA,aZ,aS]
   refine tk 10 rfl ?_
   try simp only [Act.put,aA,aZ,aS]
   refine wpAnyG_takeA 11 rfl kR (fun _ _ _ h => h) (fun _ => YieldsG.pure (by rfl) (fun w9 _ => by go_simp; try with_reducible rfl)) ?_
   try simp only [Act.put,aA,aZ,aS]
   refine tk 12 rfl ?_
   try simp only [Act.put,aA,aZ,aS]
   refine wpAnyG_sole 13 rfl kR (by rfl) (fun u hu K hK => ?_)
   have BX:=Gr.blk hu BX
   have BY:=Gr.blk hu BY
   have BW:=Gr.blk hu BW
   have hb:=Below.gr hb hu
   have pc : u.cell? ⟨w.heap.size + 2,0,none⟩ = some (.int .u64 0):=BW.cell 0
   have pf:=BW.frozen 0
   clear hu px py
   go_simp
   refine hK _ _ (fun e => by cases e) ?_
   clear hK K
   have hb:=hb.setCell (p:=⟨w.heap.size + 2,0,none⟩) (by show w.heap.size ≤ w.heap.size + 2; omega) (.int .u64 (s0 : Int))
   have BX:=BX.far (p:=⟨w.heap.size + 2,0,none⟩) (by show w.heap.size ≠ w.heap.size + 2; omega) (.int .u64 (s0 : Int))
   have BY:=BY.far (p:=⟨w.heap.size + 2,0,none⟩) (by show w.heap.size + 1 ≠ w.heap.size + 2; omega) (.int .u64 (s0 : Int))
   have BW:=BW.set_ 0 (.int .u64 (s0 : Int))
   refine wpAnyG_takeA 14 rfl kR (fun _ _ _ h => h) (fun _ => YieldsG.pure (by rfl) (fun w9 _ => by go_simp; try with_reducible rfl)) ?_
   try simp only [Act.put,aA,aZ,aS]
   refine wpAnyG_done kR (fun v hv => ?_)
   have hb:=Below.gr hb hv
   have BX:=Gr.blk hv BX
   have BY:=Gr.blk hv BY
   have BW:=Gr.blk hv BW
   clear hv pc pf
   go_wp2
   refine ⟨⟨hb,BX,BY,Lib.hid (.inr (.inl (⟨rfl,rfl,BW⟩)))⟩,by decide⟩
  ·clear HI
   have px : wr.cell? ⟨w.heap.size,1,none⟩ = some (.int .u64 (x1 : Int)):=BX.cell 1
   have py : wr.cell? ⟨w.heap.size + 1,1,none⟩ = some (.int .u64 (y1 : Int)):=BY.cell 1
   go_wp2
   refine wp_region_G (fun j => j == 13) kR ?_
   try simp only [Act.put]
   refine tk 0 rfl ?_
   try simp only [Act.put,aA,aZ,aS]
   refine tk 1 rfl ?_
   try simp only [Act.put,aA,aZ,aS]
   refine tk 2 rfl ?_
   try simp only [Act.put,aA,aZ,aS]
   refine tkw 3 rfl (YieldsG.pure (v:=.int .u64 (x1 : Int)) (by rfl) (fun w9 h9 => by have hz:=(Below.cell (p:=⟨w.heap.size,1,none⟩) h9 lX).trans px; go_simp; first | done | simp [hz])) ?_
   try simp only [Act.put,aA,aZ,aS]
   refine tk 4 rfl ?_
   try simp only [Act.put,aA,aZ,aS]
   refine tk 5 rfl ?_
   try simp only [Act.put,aA,aZ,aS]
   refine tkw 6 rfl (YieldsG.pure (v:=.int .u64 (y1 : Int)) (by rfl) (fun w9 h9 => by have hz:=(Below.cell (p:=⟨w.heap.size + 1,1,none⟩) h9 lY).trans py; go_simp; first | done | simp [hz])) ?_
   try simp only [Act.put,aA,aZ,aS]
   refine tk 7 rfl ?_
   try simp only [Act.put,aA,aZ,aS]
   refine tkw 8 rfl (YieldsG.pure (v:=.tuple #[.int .u64 (s1 : Int),.int .u64 (c1 : Int)]) (by rfl) (fun w9 h9 => by go_simp)) ?_
   try simp only [Act.put,aA,aZ,aS]
   refine tk 9 rfl ?_
   try simp only [Act.put,aA,aZ,aS]
   refine tk 10 rfl ?_
   try simp only [Act.put,aA,aZ,aS]
   refine wpAnyG_takeA 11 rfl kR (fun _ _ _ h => h) (fun _ => YieldsG.pure (by rfl) (fun w9 _ => by go_simp; try with_reducible rfl)) ?_
   try simp only [Act.put,aA,aZ,aS]
   refine tk 12 rfl ?_
   try simp only [Act.put,aA,aZ,aS]
   refine wpAnyG_sole 13 rfl kR (by rfl) (fun u hu K hK => ?_)
   have BX:=Gr.blk hu BX
   have BY:=Gr.blk hu BY
   have BW:=Gr.blk hu BW
   have hb:=Below.gr hb hu
   have pc : u.cell? ⟨w.heap.size + 2,1,none⟩ = some (.int .u64 0):=BW.cell 1
   have pf:=BW.frozen 1
   clear hu px py
   go_simp
   refine hK _ _ (fun e => by cases e) ?_
   clear hK K
   have hb:=hb.setCell (p:=⟨w.heap.size + 2,1,none⟩) (by show w.heap.size ≤ w.heap.size + 2; omega) (.int .u64 (s1 : Int))
   have BX:=BX.far (p:=⟨w.heap.size + 2,1,none⟩) (by show w.heap.size ≠ w.heap.size + 2; omega) (.int .u64 (s1 : Int))
   have BY:=BY.far (p:=⟨w.heap.size + 2,1,none⟩) (by show w.heap.size + 1 ≠ w.heap.size + 2; omega) (.int .u64 (s1 : Int))
   have BW:=BW.set_ 1 (.int .u64 (s1 : Int))
   refine wpAnyG_takeA 14 rfl kR (fun _ _ _ h => h) (fun _ => YieldsG.pure (by rfl) (fun w9 _ => by go_simp; try with_reducible rfl)) ?_
   try simp only [Act.put,aA,aZ,aS]
   refine wpAnyG_done kR (fun v hv => ?_)
   have hb:=Below.gr hb hv
   have BX:=Gr.blk hv BX
   have BY:=Gr.blk hv BY
   have BW:=Gr.blk hv BW
   clear hv pc pf
   go_wp2
   refine ⟨⟨hb,BX,BY,Lib.hid (.inr (.inr (.inl (⟨rfl,rfl,BW⟩))))⟩,by decide⟩
  ·clear HI
   have px : wr.cell? ⟨w.heap.size,2,none⟩ = some (.int .u64 (x2 : Int)):=BX.cell 2
   have py : wr.cell? ⟨w.heap.size + 1,2,none⟩ = some (.int .u64 (y2 : Int)):=BY.cell 2
   go_wp2
   refine wp_region_G (fun j => j == 13) kR ?_
   try simp only [Act.put]
   refine tk 0 rfl ?_
   try simp only [Act.put,aA,aZ,aS]
   refine tk 1 rfl ?_
   try simp only [Act.put,aA,aZ,aS]
   refine tk 2 rfl ?_
   try simp only [Act.put,aA,aZ,aS]
   refine tkw 3 rfl (YieldsG.pure (v:=.int .u64 (x2 : Int)) (by rfl) (fun w9 h9 => by have hz:=(Below.cell (p:=⟨w.heap.size,2,none⟩) h9 lX).trans px; go_simp; first | done | simp [hz])) ?_
   try simp only [Act.put,aA,aZ,aS]
   refine tk 4 rfl ?_
   try simp only [Act.put,aA,aZ,aS]
   refine tk 5 rfl ?_
   try simp only [Act.put,aA,aZ,aS]
   refine tkw 6 rfl (YieldsG.pure (v:=.int .u64 (y2 : Int)) (by rfl) (fun w9 h9 => by have hz:=(Below.cell (p:=⟨w.heap.size + 1,2,none⟩) h9 lY).trans py; go_simp; first | done | simp [hz])) ?_
   try simp only [Act.put,aA,aZ,aS]
   refine tk 7 rfl ?_
   try simp only [Act.put,aA,aZ,aS]
   refine tkw 8 rfl (YieldsG.pure (v:=.tuple #[.int .u64 (s2 : Int),.int .u64 (c2 : Int)]) (by rfl) (fun w9 h9 => by go_simp)) ?_
   try simp only [Act.put,aA,aZ,aS]
   refine tk 9 rfl ?_
   try simp only [Act.put,aA,aZ,aS]
   refine tk 10 rfl ?_
   try simp only [Act.put,aA,aZ,aS]
   refine wpAnyG_takeA 11 rfl kR (fun _ _ _ h => h) (fun _ => YieldsG.pure (by rfl) (fun w9 _ => by go_simp; try with_reducible rfl)) ?_
   try simp only [Act.put,aA,aZ,aS]
   refine tk 12 rfl ?_
   try simp only [Act.put,aA,aZ,aS]
   refine wpAnyG_sole 13 rfl kR (by rfl) (fun u hu K hK => ?_)
   have BX:=Gr.blk hu BX
   have BY:=Gr.blk hu BY
   have BW:=Gr.blk hu BW
   have hb:=Below.gr hb hu
   have pc : u.cell? ⟨w.heap.size + 2,2,none⟩ = some (.int .u64 0):=BW.cell 2
   have pf:=BW.frozen 2
   clear hu px py
   go_simp
   refine hK _ _ (fun e => by cases e) ?_
   clear hK K
   have hb:=hb.setCell (p:=⟨w.heap.size + 2,2,none⟩) (by show w.heap.size ≤ w.heap.size + 2; omega) (.int .u64 (s2 : Int))
   have BX:=BX.far (p:=⟨w.heap.size + 2,2,none⟩) (by show w.heap.size ≠ w.heap.size + 2; omega) (.int .u64 (s2 : Int))
   have BY:=BY.far (p:=⟨w.heap.size + 2,2,none⟩) (by show w.heap.size + 1 ≠ w.heap.size + 2; omega) (.int .u64 (s2 : Int))
   have BW:=BW.set_ 2 (.int .u64 (s2 : Int))
   refine wpAnyG_takeA 14 rfl kR (fun _ _ _ h => h) (fun _ => YieldsG.pure (by rfl) (fun w9 _ => by go_simp; try with_reducible rfl)) ?_
   try simp only [Act.put,aA,aZ,aS]
   refine wpAnyG_done kR (fun v hv => ?_)
   have hb:=Below.gr hb hv
   have BX:=Gr.blk hv BX
   have BY:=Gr.blk hv BY
   have BW:=Gr.blk hv BW
   clear hv pc pf
   go_wp2
   refine ⟨⟨hb,BX,BY,Lib.hid (.inr (.inr (.inr (.inl (⟨rfl,rfl,BW⟩)))))⟩,by decide⟩
  ·clear HI
   have px : wr.cell? ⟨w.heap.size,3,none⟩ = some (.int .u64 (x3 : Int)):=BX.cell 3
   have py : wr.cell? ⟨w.heap.size + 1,3,none⟩ = some (.int .u64 (y3 : Int)):=BY.cell 3
   go_wp2
   refine wp_region_G (fun j => j == 13) kR ?_
   try simp only [Act.put]
   refine tk 0 rfl ?_
   try simp only [Act.put,aA,aZ,aS]
   refine tk 1 rfl ?_
   try simp only [Act.put,aA,aZ,aS]
   refine tk 2 rfl ?_
   try simp only [Act.put,aA,aZ,aS]
   refine tkw 3 rfl (YieldsG.pure (v:=.int .u64 (x3 : Int)) (by rfl) (fun w9 h9 => by have hz:=(Below.cell (p:=⟨w.heap.size,3,none⟩) h9 lX).trans px; go_simp; first | done | simp [hz])) ?_
   try simp only [Act.put,aA,aZ,aS]
   refine tk 4 rfl ?_
   try simp only [Act.put,aA,aZ,aS]
   refine tk 5 rfl ?_
   try simp only [Act.put,aA,aZ,aS]
   refine tkw 6 rfl (YieldsG.pure (v:=.int .u64 (y3 : Int)) (by rfl) (fun w9 h9 => by have hz:=(Below.cell (p:=⟨w.heap.size + 1,3,none⟩) h9 lY).trans py; go_simp; first | done | simp [hz])) ?_
   try simp only [Act.put,aA,aZ,aS]
   refine tk 7 rfl ?_
   try simp only [Act.put,aA,aZ,aS]
   refine tkw 8 rfl (YieldsG.pure (v:=.tuple #[.int .u64 (s3 : Int),.int .u64 (c3 : Int)]) (by rfl) (fun w9 h9 => by go_simp)) ?_
   try simp only [Act.put,aA,aZ,aS]
   refine tk 9 rfl ?_
   try simp only [Act.put,aA,aZ,aS]
   refine tk 10 rfl ?_
   try simp only [Act.put,aA,aZ,aS]
   refine wpAnyG_takeA 11 rfl kR (fun _ _ _ h => h) (fun _ => YieldsG.pure (by rfl) (fun w9 _ => by go_simp; try with_reducible rfl)) ?_
   try simp only [Act.put,aA,aZ,aS]
   refine tk 12 rfl ?_
   try simp only [Act.put,aA,aZ,aS]
   refine wpAnyG_sole 13 rfl kR (by rfl) (fun u hu K hK => ?_)
   have BX:=Gr.blk hu BX
   have BY:=Gr.blk hu BY
   have BW:=Gr.blk hu BW
   have hb:=Below.gr hb hu
   have pc : u.cell? ⟨w.heap.size + 2,3,none⟩ = some (.int .u64 0):=BW.cell 3
   have pf:=BW.frozen 3
   clear hu px py
   go_simp
   refine hK _ _ (fun e => by cases e) ?_
   clear hK K
   have hb:=hb.setCell (p:=⟨w.heap.size + 2,3,none⟩) (by show w.heap.size ≤ w.heap.size + 2; omega) (.int .u64 (s3 : Int))
   have BX:=BX.far (p:=⟨w.heap.size + 2,3,none⟩) (by show w.heap.size ≠ w.heap.size + 2; omega) (.int .u64 (s3 : Int))
   have BY:=BY.far (p:=⟨w.heap.size + 2,3,none⟩) (by show w.heap.size + 1 ≠ w.heap.size + 2; omega) (.int .u64 (s3 : Int))
   have BW:=BW.set_ 3 (.int .u64 (s3 : Int))
   refine wpAnyG_takeA 14 rfl kR (fun _ _ _ h => h) (fun _ => YieldsG.pure (by rfl) (fun w9 _ => by go_simp; try with_reducible rfl)) ?_
   try simp only [Act.put,aA,aZ,aS]
   refine wpAnyG_done kR (fun v hv => ?_)
   have hb:=Below.gr hb hv
   have BX:=Gr.blk hv BX
   have BY:=Gr.blk hv BY
   have BW:=Gr.blk hv BW
   clear hv pc pf
   go_wp2
   refine ⟨⟨hb,BX,BY,Lib.hid (.inr (.inr (.inr (.inr (⟨rfl,rfl,BW⟩)))))⟩,by decide⟩
  ·clear HI
   obtain ⟨s,hsd⟩ : ∃ s,s = s0 + 18446744073709551616 * s1 + 340282366920938463463374607431768211456 * s2 + 6277101735386680763835789423207666416102355444464034512896 * s3:=⟨_,rfl⟩
   have hf:=hs.out
   have hl:=hlt.out
   have hn:=HF.out
   rw [← hsd] at hf hl hn
   have BS:=BW.eq_ (fcs_words hf.symm).symm
   have HS:=Lib.hid (And.intro hl hn)
   clear hf hl hn hsd
   go_wp2_with (first | ((with_reducible refine here_load (d:=some 24) ?_); refine wpList_load_fv rfl _ _ rfl (w.heap.size + 2) rfl (s) _ _ _ (BS) (fv_fcs s) Tryz.underlying24 rfl kR ?_) | ((with_reducible refine here_store ?_); refine wpList_store_blk rfl _ _ _ rfl (w.heap.size + 2) (fcs (s)) rfl rfl _ _ (BS) kR (by rfl) (fcs_one _) ?_; intro w9 hL9 hB9 hK9))
   exact bodyPost_ret (res_cell_tmp rfl _ _ (w.heap.size + 2) _ _ _ _ rfl hL9 rfl Tryz.underlying24 rfl kR) rfl ⟨⟨s,c3,HS.out.1,HK.out,HS.out.2,rfl⟩,hb.trans (hB9 _ (by omega))⟩
end Sc
end
section
namespace Sc
open Go.RowKit Go.Lib
set_option maxRecDepth 100000
theorem plus_fv (w : World) (x y s k : Nat) (hx : x < (2^256)) (hy : y < (2^256)) (hs : s < (2^256)) (he : s + (2^256) * k = x + y) :
  Calls Tryz.prog 147 #[fv x,fv y] w fun e w' => e = .returned (.tuple #[fv s,.int .u64 (k : Int)]) ∧ Below w.heap.size w w':=by
 refine (plus_any w x y hx hy).mono ?_
 rintro e w' ⟨⟨s',k',hs',hk',he',rfl⟩,hb⟩
 obtain rfl : k' = k:=by omega
 obtain rfl : s' = s:=by omega
 exact ⟨rfl,hb⟩
set_option maxHeartbeats 1000000 in
theorem addF_any (w : World) (x y : Nat) (hx : x < (2^256)) (hy : y < (2^256)) : Calls Tryz.prog 97 #[fv x,fv y] w fun e w' => e = .returned (fv (addP x y)) ∧ Below w.heap.size w w':=by
 obtain ⟨p,hp⟩ : ∃ p,p = x % pM:=⟨_,rfl⟩
 obtain ⟨q,hq⟩ : ∃ q,q = y % pM:=⟨_,rfl⟩
 obtain ⟨z,hz⟩ : ∃ z,z = addP x y:=⟨_,rfl⟩
 have lp : p < 115792089237316195423570985008687907852837564279074904382605163141518161494337:=by rw [hp]; exact mod_lt_p x
 have lq : q < 115792089237316195423570985008687907852837564279074904382605163141518161494337:=by rw [hq]; exact mod_lt_p y
 have hzs : z = (p + q) % pM:=by rw [hz,addP,hp,hq, ← Nat.add_mod]
 obtain ⟨s,k,hs,hk,he⟩ : ∃ s k : Nat,s < (2^256) ∧ k ≤ 1 ∧ s + (2^256) * k = p + q:=⟨(p + q) % (2^256),(p + q) / (2^256),by omega,by omega,by omega⟩
 have cx : ∀ w,Calls Tryz.prog 128 #[fv x] w fun e w' => e = .returned (fv p) ∧ Below w.heap.size w w':=by
  intro w; rw [hp]; exact norm_any w x hx
 have cy : ∀ w,Calls Tryz.prog 128 #[fv y] w fun e w' => e = .returned (fv q) ∧ Below w.heap.size w w':=by
  intro w; rw [hq]; exact norm_any w y hy
 have cp:=fun w => plus_fv w p q s k (by omega) (by omega) hs he
 have cr:=fun w => reduce_at w s k z k rfl hs hk (by omega) (by rw [hzs, ← he])
 rw [← hz]
 obtain ⟨x0,x1,x2,x3,fx⟩:=words_fv x hx
 obtain ⟨y0,y1,y2,y3,fy⟩:=words_fv y hy
 have FX:=Lib.hid fx
 have FY:=Lib.hid fy
 rw [fx,fy]
 clear fx fy hx hy hp hq hz lp lq hzs hs hk he
 go_enter Tryz.func97,Tryz.ntmps97
 go_wp2
 refine wp_region_G (fun j => j == 8) kR ?_
 try simp only [Act.put]
 refine tkw 0 rfl (YieldsG.loadF (by rfl) _ _ rfl (w.heap.size) rfl (x) _ _ (((Blk.new w _ _).alloc _).alloc _) (FX.out) Tryz.underlying24 rfl kR) ?_
 try simp only [Act.put,aA,aZ,aS]
 refine tkw 1 rfl (YieldsG.call (v:=fv p) (by rfl) 128 _ (fun w9 => by go_simp; try (first | with_reducible rfl | rfl)) (fun w9 h9 => cx w9)) ?_
 try simp only [Act.put,aA,aZ,aS]
 refine tkw 2 rfl (YieldsG.loadF (by rfl) _ _ rfl (w.heap.size + 1) rfl (y) _ _ ((blk_new2 w _ _ _).alloc _) (FY.out) Tryz.underlying24 rfl kR) ?_
 try simp only [Act.put,aA,aZ,aS]
 refine tkw 3 rfl (YieldsG.call (v:=fv q) (by rfl) 128 _ (fun w9 => by go_simp; try (first | with_reducible rfl | rfl)) (fun w9 h9 => cy w9)) ?_
 try simp only [Act.put,aA,aZ,aS]
 refine tkw 4 rfl (YieldsG.call (v:=.tuple #[fv s,.int .u64 (k : Int)]) (by rfl) 147 _ (fun w9 => by go_simp; try (first | with_reducible rfl | rfl)) (fun w9 h9 => cp w9)) ?_
 try simp only [Act.put,aA,aZ,aS]
 refine tk 5 rfl ?_
 try simp only [Act.put,aA,aZ,aS]
 refine tk 6 rfl ?_
 try simp only [Act.put,aA,aZ,aS]
 refine tkw 7 rfl (YieldsG.call (v:=fv z) (by rfl) 146 _ (fun w9 => by go_simp; try (first | with_reducible rfl | rfl)) (fun w9 h9 => cr w9)) ?_
 try simp only [Act.put,aA,aZ,aS]
 refine wpAnyG_store 8 rfl kR (by rfl) _ _ _ rfl (w.heap.size + 2) (fcs (z)) rfl rfl _ _ (blk_new3 w _ _ _ _) kR (by rfl) (fcs_one _) rfl (fun w6 h6 w7 hB7 hL7 => ?_)
 try simp only [Act.put]
 refine wpAnyG_done kR (fun w8 h8 => ?_)
 have hfin:=Gr.blk h8 hL7
 have hb9:=(Below.gr (below_alloc3 w _ _ _) h6).trans ((hB7 _ (by omega)).trans (Below.mono h8 (by have:=hL7.lt; omega)))
 go_wp2
 exact bodyPost_ret (results_cell_row rfl _ _ (w.heap.size + 2) _ _ (0,0) _ rfl hfin Tryz.underlying24 rfl kR) rfl ⟨rfl,hb9⟩
set_option maxHeartbeats 1000000 in
theorem negF_any (w : World) (x : Nat) (hx : x < (2^256)) : Calls Tryz.prog 95 #[fv x] w fun e w' => e = .returned (fv (negP x)) ∧ Below w.heap.size w w':=by
 obtain ⟨o,ho⟩ : ∃ o,o = 115792089237316195423570985008687907852837564279074904382605163141518161494337:=⟨_,rfl⟩
 obtain ⟨p,hp⟩ : ∃ p,p = x % pM:=⟨_,rfl⟩
 obtain ⟨z,hz⟩ : ∃ z,z = negP x:=⟨_,rfl⟩
 have lp : p < 115792089237316195423570985008687907852837564279074904382605163141518161494337:=by rw [hp]; exact mod_lt_p x
 obtain ⟨s,hs⟩ : ∃ s,s = o - p:=⟨_,rfl⟩
 have hzs : z = s % pM:=by rw [hz,negP,hs,ho,hp]; rfl
 have co:=fun w => order_at w o ho
 have cx : ∀ w,Calls Tryz.prog 128 #[fv x] w fun e w' => e = .returned (fv p) ∧ Below w.heap.size w w':=by
  intro w; rw [hp]; exact norm_any w x hx
 have cm:=fun w => minus_fv w o p s 0 (by omega) (by omega) (by omega) (by omega)
 have cz : ∀ w,Calls Tryz.prog 128 #[fv s] w fun e w' => e = .returned (fv z) ∧ Below w.heap.size w w':=by
  intro w; rw [hzs]; exact norm_any w s (by omega)
 obtain ⟨x0,x1,x2,x3,fx⟩:=words_fv x hx
 have FX:=Lib.hid fx
 rw [fx, ← hz]
 clear fx hx ho hp hz lp hs hzs
 go_enter Tryz.func95,Tryz.ntmps95
 go_wp2
 refine wp_region_G (fun j => j == 8) kR ?_
 try simp only [Act.put]
 refine tkw 0 rfl (YieldsG.call (v:=fv o) (by rfl) 145 _ (fun w9 => by go_simp; try (first | with_reducible rfl | rfl)) (fun w9 h9 => co w9)) ?_
 try simp only [Act.put,aA,aZ,aS]
 refine tkw 1 rfl (YieldsG.loadF (by rfl) _ _ rfl (w.heap.size) rfl (x) _ _ ((Blk.new w _ _).alloc _) (FX.out) Tryz.underlying24 rfl kR) ?_
 try simp only [Act.put,aA,aZ,aS]
 refine tkw 2 rfl (YieldsG.call (v:=fv p) (by rfl) 128 _ (fun w9 => by go_simp; try (first | with_reducible rfl | rfl)) (fun w9 h9 => cx w9)) ?_
 try simp only [Act.put,aA,aZ,aS]
 refine tkw 3 rfl (YieldsG.call (v:=.tuple #[fv s,.int .u64 ((0 : Nat) : Int)]) (by rfl) 144 _ (fun w9 => by go_simp; try (first | with_reducible rfl | rfl)) (fun w9 h9 => cm w9)) ?_
 try simp only [Act.put,aA,aZ,aS]
 refine tk 4 rfl ?_
 try simp only [Act.put,aA,aZ,aS]
 refine tk 5 rfl ?_
 try simp only [Act.put,aA,aZ,aS]
 refine wpAnyG_takeA 6 rfl kR (fun _ _ _ h => h) (fun _ => YieldsG.pure (by rfl) (fun w9 _ => by go_simp; try with_reducible rfl)) ?_
 try simp only [Act.put,aA,aZ,aS]
 refine wpAnyG_sole 7 rfl kR (by rfl) (fun w3 h3 K hK => ?_)
 go_simp
 refine hK _ _ (fun _ => gr_alloc _ _) ?_
 clear hK K
 try simp only [Act.put,aA,aZ,aS]
 refine wpAnyG_store 8 rfl kR (by rfl) _ _ _ rfl (w3.heap.size) (fcs (s)) rfl rfl _ _ (Blk.new w3 _ _) kR (by rfl) (fcs_one _) rfl (fun w6 h6 w7 hB7 hL7 => ?_)
 try simp only [Act.put]
 refine wpAnyG_takeA 9 rfl kR (fun _ _ _ h => h) (fun _ => YieldsG.pure (by rfl) (fun w9 _ => by go_simp; try with_reducible rfl)) ?_
 try simp only [Act.put,aA,aZ,aS]
 refine wpAnyG_done kR (fun w8 h8 => ?_)
 have BS:=Gr.blk h8 hL7
 have hsz : w.heap.size + 2 ≤ w3.heap.size:=by have:=h3.size; simp at this; omega
 have BR : Blk w8 (w.heap.size + 1) 24 _:=Gr.blk h8 (Blk.below (B:=w3.heap.size) (Gr.blk h6 (Blk.alloc (Gr.blk h3 (blk_new2 w _ _ _)) _)) (hB7 _ (Nat.le_refl _)) (by omega))
 have hB : Below w.heap.size w w8:=Below.gr ((Below.gr ((Below.gr (below_alloc2 w _ _) h3).alloc (by omega) _) h6).trans (hB7 _ (by omega))) h8
 clear h3 h6 hB7 hL7 h8 cm co cx
 go_wp2_with (first | ((with_reducible refine here_load (d:=some 12) ?_); refine wpList_load_fv rfl _ _ rfl (w3.heap.size) rfl (s) _ _ _ (BS) (fv_fcs s) Tryz.underlying24 rfl kR ?_))
 refine (cz _).mono ?_
 rintro e w9 ⟨rfl,hb⟩
 have BR9:=Gr.blk hb BR
 have hB9:=Below.gr hB hb
 go_wp2_with (first | ((with_reducible refine here_store ?_); refine wpList_store_blk rfl _ _ _ rfl (w.heap.size + 1) (fcs (z)) rfl rfl _ _ (BR9) kR (by rfl) (fcs_one _) ?_; intro wz hL hBz hKz))
 exact bodyPost_ret (results_cell_row rfl _ _ (w.heap.size + 1) _ _ (0,0) _ rfl hL Tryz.underlying24 rfl kR) rfl ⟨rfl,hB9.trans (hBz _ (by omega))⟩
end Sc
end
end Go.Proofs.YtfhcpdbahbbmaaaGreatDoor
