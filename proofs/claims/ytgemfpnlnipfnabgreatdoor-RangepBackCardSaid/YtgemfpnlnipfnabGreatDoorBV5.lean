/-
  Texts of ours.
-/
import Derived.Test.YtgemfpnlnipfnabGreatDoorBV4
set_option linter.unusedVariables false
set_option linter.unusedSimpArgs false
set_option maxRecDepth 100000
set_option maxHeartbeats 80000000
namespace Go.Proofs.YtgemfpnlnipfnabGreatDoor
section
namespace Ec
variable {n:Nat} [NeZero n] {inv:Fin n→Fin n} {α:Type}
def sumF (inv:Fin n→Fin n) (f:α→Pt n) (s:Pt n):List α→Pt n
 | []=>s
 | x::l=>sumF inv f (add inv s (f x)) l
def sumL (inv:Fin n→Fin n) (f:α→Pt n) (l:List α):Pt n:=sumF inv f none l
theorem On.sumF (H:Fld n inv) {f:α→Pt n}:∀ (l:List α) {s:Pt n},On s→(∀ x∈l,On (f x))→On (Ec.sumF inv f s l)
 | [],_,hs,_=>hs
 | x::l,_,hs,hf=>On.sumF H l (On.add H hs (hf x (List.mem_cons_self ..))) λy hy=>hf y (List.mem_cons_of_mem _ hy)
theorem JN (H:Fld n inv) {f:α→Pt n}:∀ (l:List α) {s t:Pt n},On s→On t→(∀ x∈l,On (f x))→sumF inv f (add inv s t) l=add inv s (sumF inv f t l)
 | [],_,_,_,_,_=>rfl
 | x::l,s,t,hs,ht,hf=>by
  have hx:=hf x (List.mem_cons_self ..)
  show sumF inv f (add inv (add inv s t) (f x)) l=add inv s (sumF inv f (add inv t (f x)) l)
  rw [assoc H hs ht hx]
  exact JN H l hs (On.add H ht hx) λy hy=>hf y (List.mem_cons_of_mem _ hy)
theorem sumF_is (H:Fld n inv) {f:α→Pt n} (l:List α) {s:Pt n} (hs:On s) (hf:∀ x∈l,On (f x)):sumF inv f s l=add inv s (sumL inv f l):=by
 have:=JN H l hs (show On none from trivial) hf
 rwa [add_zero] at this
theorem On.sumL (H:Fld n inv) {f:α→Pt n} (l:List α) (hf:∀ x∈l,On (f x)):On (Ec.sumL inv f l):=On.sumF H l trivial hf
theorem Cp (H:Fld n inv) {f:α→Pt n} (x:α) (l:List α) (hf:∀ y∈x::l,On (f y)):sumL inv f (x::l)=add inv (f x) (sumL inv f l):=by
 show sumF inv f (add inv none (f x)) l=_
 rw [zero_add]
 exact sumF_is H l (hf x (List.mem_cons_self ..)) λy hy=>hf y (List.mem_cons_of_mem _ hy)
theorem sumL_append (H:Fld n inv) {f:α→Pt n}:∀ (l m:List α),(∀ x∈l++m,On (f x))→sumL inv f (l++m)=add inv (sumL inv f l) (sumL inv f m)
 | [],m,_=>(zero_add _).symm
 | x::l,m,h=>by
  have h1:∀ y∈l++m,On (f y):=λy hy=>h y (List.mem_cons_of_mem _ hy)
  have h2:∀ y∈x::l,On (f y):=λy hy=>h y (by rcases List.mem_cons.1 hy with rfl | hy; exact List.mem_cons_self ..; exact List.mem_cons_of_mem _ (List.mem_append_left _ hy))
  rw [List.cons_append,Cp H x (l++m) (λy hy=>h y (by rw [List.cons_append]; exact hy)),sumL_append H l m h1,Cp H x l h2,
   assoc H (h x (List.mem_cons_self ..)) (On.sumL H l λy hy=>h1 y (List.mem_append_left _ hy)) (On.sumL H m λy hy=>h1 y (List.mem_append_right _ hy))]
theorem Mz (H:Fld n inv) {f g:α→Pt n}:∀ (l:List α),(∀ x∈l,On (f x))→(∀ x∈l,On (g x))→sumL inv (λx=>add inv (f x) (g x)) l=add inv (sumL inv f l) (sumL inv g l)
 | [],_,_=>rfl
 | x::l,hf,hg=>by
  have f1:=hf x (List.mem_cons_self ..)
  have g1:=hg x (List.mem_cons_self ..)
  have hf':∀ y∈l,On (f y):=λy hy=>hf y (List.mem_cons_of_mem _ hy)
  have hg':∀ y∈l,On (g y):=λy hy=>hg y (List.mem_cons_of_mem _ hy)
  rw [Cp H x l (λy hy=>On.add H (hf y hy) (hg y hy)),Cp H x l hf,Cp H x l hg,Mz H l hf' hg']
  exact aM H f1 g1 (On.sumL H l hf') (On.sumL H l hg')
theorem P8 (H:Fld n inv) {f:α→Pt n} (k:Nat):∀ (l:List α),(∀ x∈l,On (f x))→sumL inv (λx=>nm inv k (f x)) l=nm inv k (sumL inv f l)
 | [],_=>(nm_none k).symm
 | x::l,hf=>by
  have f1:=hf x (List.mem_cons_self ..)
  have hf':∀ y∈l,On (f y):=λy hy=>hf y (List.mem_cons_of_mem _ hy)
  rw [Cp H x l (λy hy=>On.nm H (hf y hy) k),Cp H x l hf,P8 H k l hf',PA H f1 (On.sumL H l hf')]
theorem sumL_congr (H:Fld n inv) {f g:α→Pt n}:∀ (l:List α),(∀ x∈l,On (f x))→(∀ x∈l,f x=g x)→sumL inv f l=sumL inv g l
 | [],_,_=>rfl
 | x::l,hf,he=>by
  have hg:∀ y∈x::l,On (g y):=λy hy=>he y hy ▸ hf y hy
  rw [Cp H x l hf,Cp H x l hg,he x (List.mem_cons_self ..),sumL_congr H l (λy hy=>hf y (List.mem_cons_of_mem _ hy)) λy hy=>he y (List.mem_cons_of_mem _ hy)]
theorem horner (H:Fld n inv) {p:α→Pt n} (k:α→Nat) (q:Nat) (l:List α) (hp:∀ x∈l,On (p x)) :
  add inv (nm inv 16 (sumL inv (λx=>nm inv (k x / (16*q)) (p x)) l)) (sumL inv (λx=>nm inv (k x / q%16) (p x)) l)=sumL inv (λx=>nm inv (k x / q) (p x)) l:=by
 rw [← P8 H 16 l λx hx=>On.nm H (hp x hx) _, ← Mz H l (λx hx=>On.nm H (On.nm H (hp x hx) _) _) λx hx=>On.nm H (hp x hx) _]
 refine sumL_congr H l (λx hx=>On.add H (On.nm H (On.nm H (hp x hx) _) _) (On.nm H (hp x hx) _)) λx hx=>?_
 rw [← nm_mul H (hp x hx), ← nm_add H (hp x hx)]
 congr 1
 rw [Nat.mul_comm 16 q, ← Nat.div_div_eq_div_mul]
 omega
theorem YX (P:Pt n):nm inv 2 P=add inv P P:=by
 show add inv (nm inv 1 P) P=_
 rw [nm_one]
theorem bit_step (H:Fld n inv) {P:Pt n} (hP:On P) (k q:Nat):add inv (add inv (nm inv (k / (2*q)) P) (nm inv (k / (2*q)) P)) (nm inv (k / q%2) P)=nm inv (k / q) P:=by
 rw [← YX, ← nm_mul H hP, ← nm_add H hP]
 congr 1
 rw [Nat.mul_comm 2 q, ← Nat.div_div_eq_div_mul]
 omega
end Ec
end
section
namespace Cu
open Go.RowKit Sy
theorem H6 {α:Type} (f:α→Pt):∀ (l:List α) (s:Pt) (x:α),Ec.sumF AR f s (l++[x])=Ec.add AR (Ec.sumF AR f s l) (f x)
 | [],_,_=>rfl
 | y::l,s,x=>H6 f l (Ec.add AR s (f y)) x
theorem Ko {α:Type} (f:α→Pt) (l:List α) (x:α):Ec.sumL AR f (l++[x])=Ec.add AR (Ec.sumL AR f l) (f x):=H6 f l none x
theorem Kq {α:Type} (f:α→Pt):∀ (l:List α),(∀ x∈l,f x=none)→Ec.sumL AR f l=none
 | [],_=>rfl
 | x::l,h=>by
  show Ec.sumF AR f (Ec.add AR none (f x)) l=none
  rw [h x (List.mem_cons_self ..),Ec.add_zero]
  exact Kq f l λy hy=>h y (List.mem_cons_of_mem _ hy)
theorem Ss {α β:Type} (f:β→Pt) (g:α→β) (l:List α):Ec.sumL AR f (l.map g)=Ec.sumL AR (λx=>f (g x)) l:=by
 have h:∀ (l:List α) (s:Pt),Ec.sumF AR f s (l.map g)=Ec.sumF AR (λx=>f (g x)) s l:=by
  intro l
  induction l with
  | nil=>intro _; rfl
  | cons x l ih=>intro s; exact ih _
 exact h l none
theorem Ql {a:J} {P:Pt} (hP:Ec.On P) (h:Ec.Rep a P):∀ j,Ec.Rep (dbN a j) (Ec.nm AR (2 ^ j) P)
 | 0=>by rw [Nat.pow_zero,Ec.nm_one]; exact h
 | j+1=>by
  rw [show 2 ^ (j+1)=2 ^ j+2 ^ j by omega,Ec.nm_add fld hP]
  exact Ho (hP.nm fld _) (Ql hP h j)
theorem Trm.on (t:Trm):Ec.On t.pt:=C8 t.x t.y t.i
theorem Qd (T:Nat→Trm) (i:Nat) {a:J} {s:Pt} (hs:Ec.On s) (h:Ec.Rep a s):∀ j,Ec.Rep (inJ T i a j) (Ec.sumF AR (λt=>Ec.nm AR (dg (T t).kn i) (T t).pt) s (List.range j))
 | 0=>h
 | j+1=>by
  rw [List.range_succ,H6]
  exact Hw (Ec.On.sumF fld _ hs λx _=>(T x).on.nm fld _) ((T j).on.nm fld _) (Qd T i hs h j) (Nu (T j).on (JM _) _)
theorem Zx (t:Trm):t.kn<16 ^ 64:=Nat.lt_trans (Nat.mod_lt _ dZ) dZ
theorem QV (T:Nat→Trm) (n:Nat):∀ i,i≤64→Ec.Rep (muJ T n i) (Ec.sumL AR (λt=>Ec.nm AR ((T t).kn / 16 ^ (64 - i)) (T t).pt) (List.range n))
 | 0,_=>by
  rw [Kq _ _ λx _=>by rw [Nat.sub_zero,Nat.div_eq_of_lt (Zx (T x))]; rfl]
  rfl
 | i+1,hi=>by
  have hS:Ec.On (Ec.sumL AR (λt=>Ec.nm AR ((T t).kn / 16 ^ (64 - i)) (T t).pt) (List.range n)):=Ec.On.sumL fld _ λx _=>(T x).on.nm fld _
  have h1:=Ql hS (QV T n i om) 4
  have h2:=Qd T i (hS.nm fld _) h1 n
  rw [Ec.sumF_is fld _ (hS.nm fld _) λx _=>(T x).on.nm fld _] at h2
  have e1:16 ^ (64 - i)=16*16 ^ (63 - i):=by rw [show 64 - i=(63 - i)+1 by omega,Nat.pow_succ,Nat.mul_comm]
  have h3:=Ec.horner fld (p:=λt=>(T t).pt) (λt=>(T t).kn) (16 ^ (63 - i)) (List.range n) λx _=>(T x).on
  rw [show 64 - (i+1)=63 - i by omega, ← h3, ← e1]
  exact h2
theorem Rn (T:Nat→Trm) (n:Nat):Ec.Rep (muJ T n 64) (Ec.sumL AR (λt=>Ec.nm AR (T t).kn (T t).pt) (List.range n)):=by
 have h:=QV T n 64 (Nat.le_refl _)
 simpa using h
def szC (n c:Nat):Nat:=min 32 (n - c*32)
def chJ (T:Nat→Trm) (n:Nat) (s:J) (c:Nat):J:=Cf s (muJ (λj=>T (c*32+j)) (szC n c) 64)
def chL (T:Nat→Trm) (n:Nat) (l:List Nat):J:=l.foldl (chJ T n) ⟨0,0,0⟩
theorem N7 (T:Nat→Trm) (n:Nat) (l:List Nat) (c:Nat):chL T n (l++[c])=chJ T n (chL T n l) c:=by simp [chL,List.foldl_append]
theorem Qp (T:Nat→Trm) (n:Nat):∀ c,Ec.Rep (chL T n (List.range c)) (Ec.sumL AR (λt=>Ec.nm AR (T t).kn (T t).pt) (List.range (min n (c*32))))
 | 0=>by rw [Nat.zero_mul,Nat.min_zero]; rfl
 | c+1=>by
  have hon:∀ l,Ec.On (Ec.sumL AR (λt=>Ec.nm AR (T t).kn (T t).pt) l):=λl=>Ec.On.sumL fld _ λx _=>(T x).on.nm fld _
  have h1:=Qp T n c
  have h2:=Rn (λj=>T (c*32+j)) (szC n c)
  have h3:=Hw (hon _) (Ec.On.sumL fld _ λx _=>(T (c*32+x)).on.nm fld _) h1 h2
  rw [List.range_succ,N7]
  show Ec.Rep (Cf _ _) _
  have e:min n ((c+1)*32)=min n (c*32)+szC n c:=by unfold szC; omega
  rcases Nat.lt_or_ge (c*32) n with hlt | hge
  ·rw [e,List.range_add,Ec.sumL_append fld _ _ λx _=>(T x).on.nm fld _,Ss]
   rw [show min n (c*32)=c*32 by omega] at h3 ⊢
   exact h3
  ·have ez:szC n c=0:=by unfold szC; omega
   rw [e,ez,Nat.add_zero]
   rw [ez] at h3
   have e0:∀ f:Nat→Pt,Ec.sumL AR f (List.range 0)=none:=λ_=>rfl
   rw [e0,Ec.add_zero] at h3
   exact h3
theorem W4 (T:Nat→Trm) (n:Nat):Ec.Rep (chL T n (List.range ((n+31) / 32))) (Ec.sumL AR (λt=>Ec.nm AR (T t).kn (T t).pt) (List.range n)):=by
 have h:=Qp T n ((n+31) / 32)
 rwa [show min n ((n+31) / 32*32)=n by omega] at h
end Cu
end
section
namespace Sy
open Go.RowKit
abbrev mark (D:Nat):Deferred:={ target:=.collected D,args:=#[] }
theorem St.refix {w0:Base} {w:World} {L:AC} (h:St w0 w L) (ds:List Deferred) (fe:Fence) (ro:Nat):St ⟨w0.world,w,ds,fe,ro⟩ w L:=⟨h.below,h.blk,h.apart,Nat.le_refl _,λ_ _ _ h _=>h⟩
theorem St.back {w0:Base} {W w:World} {L L':AC} (h0:St w0 W L) {ds:List Deferred} {fe:Fence} {ro:Nat} (h:St ⟨w0.world,W,ds,fe,ro⟩ w L') (ds':List Deferred) (fe':Fence) (ro':Nat):St ⟨w0.world,w0.fz,ds',fe',ro'⟩ w L' :=
 ⟨h.below,h.blk,h.apart,Nat.le_trans h0.size h.size,λk o hk ho hc=>h.non k o hk (h0.non k o hk ho hc) hc⟩
theorem St.keeps {w0:Base} {W w:World} {L L':AC} (h0:St w0 W L) {ds:List Deferred} {fe:Fence} {ro:Nat} (h:St ⟨w0.world,W,ds,fe,ro⟩ w L') {B:Nat} (hB:w0.world.heap.size≤B):KeepsFrom B W w:=⟨h.size,λk o hk ho hc=>h.non k o (Nat.le_trans hB hk) ho hc⟩
theorem St.between {w0:Base} {W w:World} {L L':AC} (h0:St w0 W L) {ds:List Deferred} {fe:Fence} {ro:Nat} (h:St ⟨w0.world,W,ds,fe,ro⟩ w L'):Below w0.world.heap.size W w :=
 ⟨h.below.os.trans h0.below.os.symm,h.below.tape.trans h0.below.tape.symm,h.below.output.trans h0.below.output.symm,h.size,λk hk=>(h.below.block k hk).trans (h0.below.block k hk).symm⟩
theorem St.own {w0:Base} {X Y:World} {L:AC} {B:Nat} {row:Option Nat} (h:St w0 X L) (hB:w0.fz.heap.size≤B) (hB2:w0.world.heap.size≤B) (hg:X.grownBy Y row) (hr:∀ r,row=some r→B≤r∧∃ o:Obj,X.heap[r]? = some o∧o.isCells=false):St w0 Y L:=by
 refine ⟨?_,λg t cs hm=>⟨(h.blk g t cs hm).1,(h.blk g t cs hm).2.grown hg (λe=>?_)⟩,h.apart,Nat.le_trans h.size hg.size,λk o hk ho hc=>?_⟩
 ·refine h.below.trans ⟨hg.os,hg.tape,hg.output,hg.size,λk hk=>hg.block k (Nat.lt_of_lt_of_le hk h.below.size) (λe=>?_)⟩
  have:=(hr k e.symm).1
  omega
 ·obtain ⟨o,ho,hc⟩:=(hr g e.symm).2
  have hb:=(h.blk g t cs hm).2
  unfold Blk at hb
  rw [hb] at ho
  cases ho
  cases hc
 ·have h1:=h.non k o hk ho hc
  have hlt:=(Array.getElem?_eq_some_iff.1 ho).1
  exact (hg.block k (Array.getElem?_eq_some_iff.1 h1).1 (λe=>by have:=(hr k e.symm).1; omega)).trans h1
def KpL (n₀:Nat) (l:AC) (W W':World):Prop:=Below n₀ W W'∧∀ p∈l,Blk W p.1 p.2.1 p.2.2→Blk W' p.1 p.2.1 p.2.2
theorem KpL.trans {n₀:Nat} {l:AC} {A B C:World} (h:KpL n₀ l A B) (k:KpL n₀ l B C):KpL n₀ l A C:=⟨h.1.trans k.1,λp hp hc=>k.2 p hp (h.2 p hp hc)⟩
theorem KpL.put {n₀:Nat} {l:AC} {W:World} {k:Nat} {o o':Obj} (hk:n₀≤k) (ho:W.heap[k]? = some o) (hc:o.isCells=false):KpL n₀ l W (W.putObj k o'):=by
 have hg:=grownBy_putObj' W k o'
 refine ⟨⟨hg.os,hg.tape,hg.output,hg.size,λj hj=>World.putObj_heap_other om⟩,λp _ hp=>?_⟩
 have hne:p.1≠k:=by
  rintro rfl
  unfold Blk at hp
  rw [hp] at ho
  cases ho
  cases hc
 exact (World.putObj_heap_other hne).trans hp
def Lt (F:AO) (ps:Array Tmp) (vs:Array Value):AO:=(ps.toList.zip vs.toList).foldl (λF x=>(x.1,x.2)::F) F
theorem Fr.round {ds:List Deferred} {n:Nat}:∀ (l:List (Tmp×Value)) {T:Array Value} {F:AO},(∀ x∈l,x.1<n)→Fr ds { tmps:=T,defers:=ds } n F→Fr ds { tmps:=l.foldl (λt x=>t.setIfInBounds x.1 x.2) T,defers:=ds } n (l.foldl (λF x=>(x.1,x.2)::F) F)
 | [],_,_,_,h=>h
 | x::l,T,F,hl,h=>by
  have h2:=h.put (d:=some x.1) (decide_eq_true (hl x (List.mem_cons_self ..))) x.2
  exact Fr.round l (λy hy=>hl y (List.mem_cons_of_mem _ hy)) h2
section
variable {P:Program} {w0 fz0:World} {n:Nat} {Q:Exit→Act→World→Prop} {F:AO} {L:AC}
abbrev rb (w0 fz:World) (l:Nat):Base:=⟨w0,fz,[],Fence.wide.inRound l,7⟩
abbrev ab (w0 fz:World) (D:Nat):Base:=⟨w0,fz,[mark D],Fence.wide,9⟩
def BP {α:Type} (w0 fz:World) (l:Nat) (HI:List α→Prop) (LL XR:List α→AC) (HX:List α→Prop) (pre:List α):Exit→Act→World→Prop
 | .normal,_,w=>HI pre∧St (rb w0 fz l) w (LL pre)
 | .ret,_,w=>HX pre∧St (rb w0 fz l) w (XR pre)
 | _,_,_=>False
def AP (w0 fz:World) (l n na:Nat) (FA:List Nat→AO) (LP:AC) (LA:List Nat→AC):Exit→Act→World→Prop
 | .normal,a,w=>∃ gs,gs.length=na∧Fr [] a n (FA gs)∧St (rb w0 fz l) w (LP++LA gs)
 | _,_,_=>False
theorem rangeF {α:Type} {g:Operand} {ps:Array Tmp} {assign body:Code} (gf:Nat) (lb:Array Value) (hgi:inF F g=true) (hg:evF F g=.func (.func gf) #[] lb) (eg:∀ args w,(callFunc gf args).run P w=.ok (.enter gf args) w)
  (encs:α→Array Value) (kl:AC) (S Sp:List α→Prop) (N:Nat) (hps:∀ x,(encs x).size=ps.size) (hpn:∀ p∈ps.toList,p<n)
  (G:List Nat) (HI:List α→Prop) (hI0:HI []) (LL XR:List α→AC) (HX:List α→Prop) (m:List Bool) (h0:sel L m=LL []) (hG:∀ pre,(LL pre).map (·.1)=G)
  (hseq:∀ w,St ⟨w0,fz0,[],Fence.wide,9⟩ w L→∃ wk,Below wk.heap.size wk w∧SeqStopsK Fence.wide 8 P gf lb encs (KpL w0.heap.size kl) S Sp N wk)
  (hkl:∀ p∈kl, ∀ pre,p∈LL pre)
  (na:Nat) (FA:α→List Nat→AO) (LA:α→List Nat→AC) (hLA:∀ x gs,gs.length=na→(LA x gs).map (·.1)=gs)
  (hassign:∀ l fz pre x,wpC P (rb w0 fz l) n (AP w0 fz l n na (FA x) (LL pre) (LA x)) (Lt F ps (encs x)) (LL pre) assign)
  (hbody:∀ l fz pre x gs,gs.length=na→pre.length<N→HI pre→wpC P (rb w0 fz l) n (BP w0 fz l HI LL XR HX (pre++[x])) (FA x gs) (LL pre++LA x gs) body)
  (hdone:∀ D fz xs,S xs→HI xs→w0.heap.size≤D→fz.heap[D]? = some (.deferred (some []))→X (ab w0 fz D) n Q F (LL xs) .normal)
  (hstop:∀ D fz pre,Sp pre→HX pre→w0.heap.size≤D→fz.heap[D]? = some (.deferred (some []))→X (ab w0 fz D) n Q F (XR pre) .ret) :
  wpC P ⟨w0,fz0,[],Fence.wide,9⟩ n Q F L (.rangeFunc g ps assign body):=by
 intro a w ha hw
 obtain ⟨wk,hbk,hsq⟩:=hseq w hw
 have hsz:fz0.heap.size≤w.heap.size:=hw.size
 have hsz0:w0.heap.size≤w.heap.size:=hw.below.size
 have hz:St ⟨w0,fz0,[],Fence.wide,9⟩ w (LL []):=h0 ▸ hw.less (CP L m)
 have had:a.defers=[]:=ha.1
 -- what a round hands on pays the iterator
 have hK:∀ {W W':World} {L1:AC} {pre pre':List α} {l:Nat},St ⟨w0,fz0,[],Fence.wide,9⟩ W (LL pre)→St (rb w0 W l) W' L1→(LL pre').Sublist L1→KpL w0.heap.size kl W W':=λ{W W' L1 pre pre' l} h1 h2 hs =>
  ⟨h1.between h2,λp hp _=>by
   exact (h2.blk _ _ _ (hs.subset (hkl p hp pre'))).2⟩
 refine wpIn_rangeFunc_ownH (F:=Fence.wide) (n:=9) rfl om (gf:=gf) (lb:=lb) ((ha.eval hgi).trans hg) trivial eg (encs:=encs) (Kp:=KpL w0.heap.size kl) (S:=S) (Sp:=Sp) (N:=N) (w0:=wk) hsq KpL.trans
  (λW l o o' hl ho hc _=>KpL.put om ho hc) hbk hps
  (λpre W=>HI pre∧St ⟨w0,fz0,[],Fence.wide,9⟩ W (LL pre)) (λc pre W=>c=.ret∧HX pre∧St ⟨w0,fz0,[],Fence.wide,9⟩ W (XR pre))
  (λpre X Y row hs hg hr=>⟨hs.1,St.own hs.2 hsz hsz0 hg hr⟩) (λc pre X Y row hs hg hr=>⟨hs.1,hs.2.1,St.own hs.2.2 hsz hsz0 hg hr⟩) ⟨hI0,hz⟩
  (λx a' W=>∃ gs,gs.length=na∧Fr [] a' n (FA x gs)∧(∀ e∈LA x gs,w0.heap.size≤e.1∧Blk W e.1 e.2.1 e.2.2)∧(G++gs).Nodup)
  (λx a' _ X Y row hs hg hr=>?_) ?_ ?_ ?_ ?_
 ·obtain ⟨gs,hl0,h1,h2,h3⟩:=hs
  refine ⟨gs,hl0,h1,λe he=>⟨(h2 e he).1,(h2 e he).2.grown hg (λq=>?_)⟩,h3⟩
  obtain ⟨o,ho,hc⟩:=(hr e.1 q.symm).2
  have hb:=(h2 e he).2
  unfold Blk at hb
  rw [hb] at ho
  cases ho
  cases hc
 ·-- the loop variables
  intro l pre x W K hI0' hk
  obtain ⟨hH,hI⟩:=hI0'
  have hfr:Fr [] { tmps:=(ps.zip (encs x)).foldl (λt (p,v)=>t.setIfInBounds p v) a.tmps,defers:=[] } n (Lt F ps (encs x)):=by
   have h1:Fr [] { tmps:=a.tmps,defers:=[] } n F:=⟨rfl,ha.2.1,ha.2.2⟩
   have h2:=Fr.round (ps.toList.zip (encs x).toList) (λy hy=>hpn y.1 (List.of_mem_zip hy).1) h1
   have e:(ps.zip (encs x)).foldl (λt (p,v)=>t.setIfInBounds p v) a.tmps=(ps.toList.zip (encs x).toList).foldl (λt x=>t.setIfInBounds x.1 x.2) a.tmps:=by
    rw [← Array.foldl_toList,Array.toList_zip]
   rw [e]
   exact h2
  refine wpIn_mono (hassign l W pre x _ W hfr (hI.refix _ _ _)) λe a' W' hq=>?_
  cases e with
  | normal =>
   obtain ⟨gs,hl0,h1,h2⟩:=hq
   have hsub:(LL pre).Sublist (LL pre++LA x gs):=List.sublist_append_left _ _
   refine hk a' W' (hI.keeps h2 hsz0) (hK hI h2 hsub) ⟨hH,(hI.back h2 _ _ _).less hsub⟩ ⟨gs,hl0,h1,λe he=>h2.blk e.1 e.2.1 e.2.2 (List.mem_append_right _ he),?_⟩
   have:=h2.apart
   rwa [List.map_append,hG,hLA _ _ hl0] at this
  | _=>exact hq.elim
 ·-- the body
  intro l pre x a' W hl _ hI0' ⟨gs,hl0,h1,h2,h3⟩ hlen
  obtain ⟨hH,hI⟩:=hI0'
  have hst:St (rb w0 W l) W (LL pre++LA x gs):=by
   refine ⟨hI.below,λg t cs hm=>?_,?_,Nat.le_refl _,λ_ _ _ h _=>h⟩
   ·rcases List.mem_append.1 hm with hm | hm
    ·exact hI.blk g t cs hm
    ·exact h2 (g,t,cs) hm
   ·rw [List.map_append,hG,hLA _ _ hl0]
    exact h3
  refine wpIn_mono (hbody l W pre x gs hl0 hlen hH a' W h1 hst) λe a3 W3 hq=>?_
  cases e with
  | normal=>exact ⟨hI.keeps hq.2 hsz0,hK hI hq.2 (List.Sublist.refl _),hq.1,hI.back hq.2 _ _ _⟩
  | ret=>exact ⟨hI.keeps hq.2 hsz0,rfl,hq.1,hI.back hq.2 _ _ _⟩
  | _=>exact hq.elim
 ·intro D xs W hD hS hI hd
  exact hdone D W xs hS hI.1 (Nat.le_trans hsz0 hD) hd _ W ⟨by simp [had],ha.2.1,ha.2.2⟩ (hI.2.refix _ _ _)
 ·rintro D c pre W hD hS ⟨rfl,hx,hI⟩ hd
  exact wpIn_ret (hstop D W pre hS hx (Nat.le_trans hsz0 hD) hd _ W ⟨by simp [had],ha.2.1,ha.2.2⟩ (hI.refix _ _ _))
theorem bpN {α:Type} {l:Nat} {HI:List α→Prop} {LL XR:List α→AC} {HX:List α→Prop} {pre:List α} (m:List Bool) {M:AC} (hL:sel L m=M) (hM:M=LL pre) (hi:HI pre):X (rb w0 fz0 l) n (BP w0 fz0 l HI LL XR HX pre) F L .normal:=λ_ _ _ hw=>by
 subst hL
 refine ⟨hi,?_⟩
 rw [← hM]
 exact hw.less (CP L m)
theorem bpR {α:Type} {l:Nat} {HI:List α→Prop} {LL XR:List α→AC} {HX:List α→Prop} {pre:List α} (m:List Bool) {M:AC} (hL:sel L m=M) (hM:M=XR pre) (hx:HX pre):X (rb w0 fz0 l) n (BP w0 fz0 l HI LL XR HX pre) F L .ret:=λ_ _ _ hw=>by
 subst hL
 refine ⟨hx,?_⟩
 rw [← hM]
 exact hw.less (CP L m)
theorem apN {l na:Nat} {FA:List Nat→AO} {LP:AC} {LA:List Nat→AC} (gs:List Nat) (hg:gs.length=na) (hF:∀ p∈FA gs,F.lookup p.1=some p.2) (m:List Bool) (hL:sel L m=LP++LA gs):X (rb w0 fz0 l) n (AP w0 fz0 l n na FA LP LA) F L .normal:=λ_ _ ha hw=>⟨gs,hg,ha.all hF,hL ▸ hw.less (CP L m)⟩
def GetsN (w:World) (R:Value→AC→Prop) (e:Ending) (w':World):Prop:=∃ v M,e=.returned v∧R v M∧Below w.heap.size w w'∧(∀ g t cs,(g,t,cs)∈M→w.heap.size≤g∧Blk w' g t cs)∧(M.map (·.1)).Nodup
theorem St.addN {w0:Base} {w w':World} {L M:AC} (h:St w0 w L) (hg:Gr w w') (hM:∀ g t cs,(g,t,cs)∈M→w.heap.size≤g∧Blk w' g t cs) (hn:(M.map (·.1)).Nodup):St w0 w' (L++M):=by
 have h':=h.gr hg
 refine ⟨h'.below,λg t cs hm=>?_,?_,h'.size,h'.non⟩
 ·rcases List.mem_append.1 hm with hm | hm
  ·exact h'.blk g t cs hm
  ·exact ⟨Nat.le_trans h.below.size (hM g t cs hm).1,(hM g t cs hm).2⟩
 ·rw [List.map_append,List.nodup_append]
  refine ⟨h.apart,hn,λx hx y hy e=>?_⟩
  obtain ⟨⟨g,t,cs⟩,hm,rfl⟩:=List.mem_map.1 hx
  obtain ⟨⟨g',t',cs'⟩,hm',rfl⟩:=List.mem_map.1 hy
  have h1:=(h.blk g t cs hm).2.lt
  have h2:=(hM g' t' cs' hm').1
  have e':g=g':=e
  omega
theorem callN {w0:Base} {ops:Array Oper} {o:Oper} {l:List Oper} (hg:Bv ops n F o=true) (f:FuncId) (args:Array Value) (he:∀ w,(execOp (evF F) o).run P w=.ok (.enter f args) w) (R:Value→AC→Prop)
  (hc:∀ w,St w0 w L→Calls P f args w (GetsN w R)) (h:∀ v M,R v M→wpS P w0 n ops Q (Bo F o.dst v) (L++M) l):wpS P w0 n ops Q F L (o::l):=λa w ha hw=>by
 obtain ⟨g1,_,g3,_⟩:=AQ hg
 refine wpList_step λK hK=>?_
 rw [if_pos (ha.wanted g1)]
 unfold Oper.wp
 rw [Ao hg ha,he w]
 refine Calls.mono (hc w hw) λe w' he'=>?_
 obtain ⟨v,M,rfl,hR,hb,hM,hn⟩:=he'
 exact hK _ _ (h v M hR _ _ (ha.put g3 v) (hw.addN hb hM hn))
theorem callND {w0:Base} {ops:Array Oper} {ex:Nat→Bool} {fuel:Nat} {listed:Array Bool} (k:Nat) {oi:Oper} (hi0:ops.toList[k]? = some oi) (hr:Region.ready .any ops listed=[k]) (hg:Bv ops n F oi=true) (f:FuncId) (args:Array Value)
  (he:∀ w,(execOp (evF F) oi).run P w=.ok (.enter f args) w) (R:Value→AC→Prop) (hc:∀ w,St w0 w L→Calls P f args w (GetsN w R)) (h:∀ v M,R v M→wpD P w0 n ops Q ex (Bo F oi.dst v) (L++M) fuel (listed.setIfInBounds k true)):wpD P w0 n ops Q ex F L (fuel+1) listed:=λa w ha hw =>
 Al k hi0 hr (ha.wanted (AQ hg).1) λw1 h1 K hK=>by
  unfold Oper.wp
  rw [Ao hg ha,he w1]
  refine Calls.mono (hc w1 (hw.gr h1)) λe w' he'=>?_
  obtain ⟨v,M,rfl,hR,hb,hM,hn⟩:=he'
  exact hK _ _ (λ_=>hb) (h v M hR _ _ (ha.put (AQ hg).2.2.1 v) ((hw.gr h1).addN hb hM hn))
theorem St.unmark {w0 fz:World} {D:Nat} {w:World} (h:St (ab w0 fz D) w L) (hD:w0.heap.size≤D) (hm:fz.heap[D]? = some (.deferred (some []))) :
  (Instr.takeDeferred D).run P w=.ok [] (w.putObj D (.deferred none))∧St (Base.of w0) (w.putObj D (.deferred none)) L:=by
 have ho:=h.non D _ hD hm U
 have hg:=grownBy_putObj' w D (.deferred none)
 refine ⟨run_takeDeferred ho,?_⟩
 have h1:St ⟨w0,w0,[],Fence.wide,9⟩ w L:=⟨h.below,h.blk,h.apart,h.below.size,λk o hk hq _=>by have:=(Array.getElem?_eq_some_iff.1 hq).1; exact absurd this (by show ¬ k<w0.heap.size; have:w0.heap.size≤k:=hk; omega)⟩
 exact h1.own (B:=w0.heap.size) (Nat.le_refl _) (Nat.le_refl _) hg (λr e=>by cases e; exact ⟨hD,_,ho,rfl⟩)
theorem retM1 {w1 fz:World} {D:Nat} {fn:Func} {r:ResultVar} {v:Value} (hr:fn.results=#[r]) (h:Has P F L r v) (hD:w1.heap.size≤D) (hm:fz.heap[D]? = some (.deferred (some []))):X (ab w1 fz D) n (bodyPostM Fence.wide 9 P fn (Gets w1 v)) F L .ret:=λa w ha hw=>by
 obtain ⟨e1,e2⟩:=St.unmark (P:=P) hw hD hm
 have hd:a.defers=[mark D]:=ha.1
 show LeavesInM Fence.wide 9 P fn a.tmps (Gets w1 v) a.defers .returning w
 rw [hd]
 refine ⟨by simp,.inl ⟨D,_,rfl,e1,?_⟩⟩
 refine ⟨v,?_,rfl,e2.below⟩
 rcases Res.run h ha e2 with ⟨t,rfl,f1⟩ | ⟨t,ty,ad,rfl,f1,f2⟩ <;> simp [results,Result.andThen, *]
end
abbrev pb (W:World) (m:Nat):Base:=⟨W,W,[],Fence.wide,m⟩
theorem St.here (W:World) (m:Nat):St (pb W m) W []:=⟨Below.refl _ _,(λ_ _ _ h=>by cases h),List.Pairwise.nil,Nat.le_refl _,λ_ _ _ h _=>h⟩
theorem St.grown {W w:World} {m:Nat} {L:AC} (h:St (pb W m) w L):Gr W w:=h.below
section
variable {P:Program} {W:World} {m n:Nat} {Q:Exit→Act→World→Prop} {F:AO} {L:AC} {ops:Array Oper} {o:Oper} {rest:List Oper}
theorem Ib {o:Oper} {a:Act} {w:World} {K:Act→World→Prop} (hd:∀ c,o.op≠.defer c) (h:o.wp P a w K Q):o.wpIn Fence.wide m P a w K Q:=by
 unfold Oper.wpIn
 refine ⟨λ_ _=>trivial,?_⟩
 rw [Oper.semAt_plain _ _ _ hd]
 unfold Oper.wp at h
 generalize (execOp a.eval o).run P w=r at *
 cases r with
 | ok x w' =>
  cases x <;> simp only [Oper.upon,Oper.uponIn] at h ⊢ <;> first
   | exact h
   | exact ⟨λe=>by simp [Fence.wide] at e,callsIn_wide.2 h⟩
   | exact ⟨λe=>by simp [Fence.wide] at e,λc cs _=>let ⟨v,w',r,s⟩:=h c cs; ⟨v,w',r,stepsIn_wide.2 s⟩⟩
   | exact h.elim
 | halt x w'=>cases x <;> simp only [Oper.upon,Oper.uponIn] at h ⊢ <;> exact h
def P3 (P:Program) (ops:Array Oper) (m:Nat) (rest:List Oper) (Q:Exit→Act→World→Prop):Exit→Act→World→Prop
 | .normal,a,w=>wpListIn Fence.wide m P ops Q rest a w
 | e,a,w=>Q e a w
theorem Gm (hq:¬ LetsOut Q):∀ (l:List Oper),(∀ o∈l, ∀ c,o.op≠.defer c)→∀ (a:Act) (w:World),wpList P ops (P3 P ops m rest Q) l a w→wpListIn Fence.wide m P ops Q (l++rest) a w
 | [],_,_,_,h=>h
 | o::l,hd,a,w,h=>by
  have hq':¬ LetsOut (P3 P ops m rest Q):=λ⟨a,w,q⟩=>hq ⟨a,w,q⟩
  unfold wpList at h
  show wpListIn Fence.wide m P ops Q (o::(l++rest)) a w
  unfold wpListIn
  split
  ·rename_i hw
   simp only [hw,if_true] at h
   rcases h with h | h
   ·have h1:=Ib (m:=m) (hd o (by simp)) h
    have h2:o.wpIn Fence.wide m P a w _ Q:=h1
    exact Oper.wpIn_mono (λa w h'=>Gm hq l (λo ho=>hd o (by simp [ho])) a w h') h2
   ·exact absurd h.2 hq'
  ·rename_i hw
   simp only [hw] at h
   exact ⟨λ_ _=>trivial,Gm hq l (λo ho=>hd o (by simp [ho])) _ _ h⟩
theorem Fw (hq:¬ LetsOut Q):∀ (l:List Oper),(∀ o∈l, ∀ c,o.op≠.defer c)→∀ (a:Act) (w:World),wpList P ops Q l a w→wpListIn Fence.wide m P ops Q l a w
 | [],_,_,_,h=>h
 | o::l,hd,a,w,h=>by
  unfold wpList at h
  unfold wpListIn
  split
  ·rename_i hw
   simp only [hw,if_true] at h
   rcases h with h | h
   ·exact Oper.wpIn_mono (λa w h'=>Fw hq l (λo ho=>hd o (by simp [ho])) a w h') (Ib (hd o (by simp)) h)
   ·exact absurd h.2 hq
  ·rename_i hw
   simp only [hw] at h
   exact ⟨λ_ _=>trivial,Fw hq l (λo ho=>hd o (by simp [ho])) _ _ h⟩
theorem Ic (h:DF ops=true) {o:Oper} (ho:o∈ops.toList):∀ c,o.op≠.defer c:=by
 obtain ⟨i,hi⟩:=List.mem_iff_getElem?.1 ho
 exact E_ h (by simpa using hi)
theorem regionY {i:Nat} (k:Nat) (hq:¬ LetsOut Q) (hd:DF ops=true) (h:wpS P (pb W m) n ops (P3 P ops m (ops.toList.drop k) Q) F L (ops.toList.take k)):wpC P (pb W m) n Q F L (.region i ops false):=λa w ha hw=>by
 refine wpIn_region_list ?_
 have h1:=Gm hq (ops.toList.take k) (λo ho=>Ic hd (List.mem_of_mem_take ho)) a w (h a w ha hw)
 rwa [List.take_append_drop] at h1
theorem yieldX {ro:Option Nat} {k:Nat} (hl:ops.toList.drop k=o::rest) (hq:¬ LetsOut Q) (hd:DF ops=true) (hg:Bv ops n F o=true) (l:Nat) (args:Array Value) (he:∀ w,(execOp (evF F) o).run P w=(Instr.yield l args).run P w)
  (R:Ending→World→Prop) (hY:∀ w,Gr W w→YieldAt Fence.wide (m - 1) P l args w R) (hR:∀ e w',R e w'→∃ b,e=.returned (.bool b)) (_:ro=none)
  (h:∀ w' b,R (.returned (.bool b)) w'→wpS P (pb w' m) n ops Q (Bo F o.dst (.bool b)) [] rest):X (pb W m) n (P3 P ops m (ops.toList.drop k) Q) F L .normal:=λa w ha hw=>by
 show wpListIn Fence.wide m P ops Q (ops.toList.drop k) a w
 have hdr:∀ o∈ops.toList.drop k, ∀ c,o.op≠.defer c:=λo ho=>Ic hd (List.mem_of_mem_drop ho)
 rw [hl] at hdr ⊢
 obtain ⟨g1,_,g3,_⟩:=AQ hg
 unfold wpListIn
 rw [if_pos (ha.wanted g1)]
 unfold Oper.wpIn
 refine ⟨λ_ _=>trivial,?_⟩
 rw [Oper.semAt_plain _ _ _ (hdr o (by simp)),Ao hg ha,he w]
 obtain ⟨fn,tmps,assign,body,e1,e2⟩:=hY w hw.grown
 rw [e1]
 refine ⟨λe=>by simp [Fence.wide] at e,e2.mono λe w' hr=>?_⟩
 obtain ⟨b,rfl⟩:=hR e w' hr
 exact Fw hq rest (λo ho=>hdr o (by simp [ho])) _ _ (h w' b hr _ _ (ha.put g3 _) (St.here w' m))
theorem Ab {β:Type} {B:Nat} {J:β→World→Prop} (h:AbidesFrom B J) {s:β} {X Y:World} (hj:J s X) (hg:Gr X Y):J s Y:=h s X Y none hj (GX hg none) (λr e=>by cases e)
theorem C4 {l:Nat} {args:Array Value} {R R':Ending→World→Prop} (h:YieldAt Fence.wide m P l args W R) (hr:∀ e w,R e w→R' e w):YieldAt Fence.wide m P l args W R':=by
 obtain ⟨fn,tmps,assign,body,e1,e2⟩:=h
 exact ⟨fn,tmps,assign,body,e1,e2.mono hr⟩
def Xj (n N:Nat) (FF:Nat→AO) (Z:Nat→World→Prop) (k:Nat):Act→World→Prop:=λa w=>k<N∧Fr [] a n (FF (k+1))∧Z (k+1) w
theorem loopP {c:Code} (N:Nat) (FF:Nat→AO) (Z:Nat→World→Prop) (hF:∀ p∈FF 0,F.lookup p.1=some p.2) (h0:∀ w,Gr W w→Z 0 w)
  (hr:∀ k w,k≤N→Z k w→wpC P (pb w m) n (Exit.then (Xj n N FF Z k) Q) (FF k) [] c):wpC P (pb W m) n Q F L (.loop c) :=
 Nb N (λk a w=>Fr [] a n (FF k)∧Z k w) (λa w ha hw=>⟨ha.all hF,h0 w hw.grown⟩)
  λk hk a w ⟨ha,hz⟩=>hr k w hk hz a w ha (St.here w m)
theorem againP {N:Nat} {FF:Nat→AO} {Z:Nat→World→Prop} {k:Nat} {R:Exit→Act→World→Prop} (hk:k<N) (hF:∀ p∈FF (k+1),F.lookup p.1=some p.2) (hz:∀ w,Gr W w→Z (k+1) w) :
  X (pb W m) n (Exit.then (Xj n N FF Z k) R) F L .normal:=λ_ w ha hw=>⟨hk,ha.all hF,hz w hw.grown⟩
theorem enterP {f:FuncId} {fn:Func} {c:Code} {args:List Value} {R:Ending→World→Prop} (hf:P.funcs[f]? = some fn) (hb:fn.body=some c) (hn:args.length≤fn.ntmps)
  (h:wpC P (pb W m) fn.ntmps (bodyPost P fn R) (GE 0 args) [] c):CallsIn Fence.wide m P f args.toArray W R :=
 callsIn_of_wp hf hb trivial (h _ _ ⟨rfl,by simp; omega,λi v hi=>by
  have:=(DG args 0 i v hi).2
  rw [Nat.sub_zero] at this
  have hl:=(List.getElem?_eq_some_iff.1 this).1
  rw [Array.getElem?_append_left (by simpa using hl)]
  simpa using this⟩ (St.here W m)) U
theorem retP {fn:Func} {R:Ending→World→Prop} (hr:fn.results=#[]) (h:∀ v w,Gr W w→R (.returned v) w) {e:Exit} (he:e=.ret∨e=.normal):X (pb W m) n (bodyPost P fn R) F L e:=λa w ha hw=>by
 have hx:a.defers=[]∧∃ v,(results fn a.tmps).run P w=.ok v w∧R (.returned v) w:=⟨ha.1,_,results_none hr _ _ _,h _ w hw.grown⟩
 rcases he with rfl|rfl <;> exact hx
end
end Sy
end
section
namespace Cu
open Go.RowKit Sy
def chV (b off m c:Nat):Value:=.slice (some ⟨b,off+32*c*13,none⟩) (szC m c) (szC m c)
def chE (b off m:Nat) {N:Nat} (x:Fin N):Array Value:=#[chV b off m x.val]
theorem SL (w : World) (A : Option Addr) (m cap : Nat) :
    Calls Tryz.prog 112 #[.slice A m cap,.int .i64 32] w (GetsN w λv M=>∃ g1 g2,v=.func (.func 173) #[] #[pT g1 0,pT g2 0]∧M=[(g1,98,#[.slice A m cap]),(g2,3,#[.int .i64 32])]):=by
  go_enter Tryz.func112,Tryz.ntmps112
  go_wp2
  go_ret
  refine ⟨_,_,rfl,⟨_,_,rfl,rfl⟩,Ad w _ _,λg t cs hm=>?_,?_⟩
  · simp only [List.mem_cons,List.not_mem_nil,or_false,Prod.mk.injEq] at hm
    rcases hm with ⟨rfl,rfl,rfl⟩ | ⟨rfl,rfl,rfl⟩
    · exact ⟨Nat.le_refl _,(Blk.new w _ _).alloc _⟩
    · exact ⟨by omega,AZ w _ _ _⟩
  · simp
theorem SM (n l Bs Bn n₀ b off m cap N : Nat) (hN0 : N = (m + 31) / 32) (hm : m ≤ cap) (hm2 : m ≤ 4611686018427387904) (J Jx : List (Fin N) → World → Prop) (W : World) (hJ : AbidesFrom W.heap.size J) (hJx : AbidesFrom W.heap.size Jx)
    (hY:∀ pre x W1,J pre W1→pre.length<N→YieldAt Fence.wide (n - 1) Tryz.prog l (chE b off m x) W1 λe W'=>(e=.returned (.bool true)∧J (pre++[x]) W'∧KpL n₀ [(Bs,98,#[.slice (some ⟨b,off,none⟩) m cap]),(Bn,3,#[.int .i64 32])] W1 W')∨(e=.returned (.bool false)∧Jx (pre++[x]) W'))
    (hS:Blk W Bs 98 #[.slice (some ⟨b,off,none⟩) m cap]) (hN:Blk W Bn 3 #[.int .i64 32]) (h0:J [] W) :
    CallsIn Fence.wide n Tryz.prog 173 #[.func (.yield l) #[] #[],pT Bs 0,pT Bn 0] W λe W'=>(∃ v,e=.returned v)∧((∃ ys:List (Fin N),ys.map (·.1)=List.range N∧J ys W')∨(∃ pre:List (Fin N),(∃ k,k≤N∧pre.map (·.1)=List.range k)∧Jx pre W')):=by
  refine Sy.enterP (args:=[.func (.yield l) #[] #[],pT Bs 0,pT Bn 0]) Tryz.func173 U kL<|sC<|sp U<|sG<|Sy.block<|Sy.loopP N (λk1=>[(0,.func (.yield l) #[] #[]),(1,pT Bs 0),(2,pT Bn 0),(4,iZ (32*k1))]) (λk1 w=>∃ pre:List (Fin N),pre.map (·.1)=List.range k1∧J pre w∧Blk w Bs 98 #[.slice (some ⟨b,off,none⟩) m cap]∧Blk w Bn 3 #[.int .i64 32]) ac4 (λw hg=>⟨[],rfl,Ab hJ h0 hg,hg.blk hS,hg.blk hN⟩) (λk1 wr hk1 hz=>?_)
  clear hS hN
  obtain ⟨pre,hpre,hj,hS,hN⟩:=hz
  have hlen:pre.length=k1:=by have:=congrArg List.length hpre; rwa [List.length_map,List.length_range] at this
  refine Sy.seq<|sC<|sp U<|sS (.slice (some ⟨b,off,none⟩) m cap) (Quiet.thereOne Bs 0 98 _ _ U kR hS.lt _ (hS.cell 0) Sd U)<|sP (iZ m) ?_
  obtain ⟨b1,hb1⟩:=xE (decide (32*k1<m))
  refine sS (.bool b1) (qls U U U hb1)<|sG ?_
  cases b1
  · have lb1:=dN hb1
    refine sU<|Sy.exit<|Sy.then_exit<|Sy.then_exit ?_
    obtain rfl:N=k1:=om
    refine Sy.in_exit ?_
    exact Sy.retP U (λv w3 hg=>⟨⟨_,rfl⟩,.inl ⟨pre,hpre,Ab hJ hj hg⟩⟩) (.inr U)
  · have lb1 : 32 * k1 < m := of_decide_eq_true hb1.symm
    refine sT<|Sy.skip<|Sy.then_<|Sy.seq<|Sy.block<|Sy.seq<|Sy.regionD (λj=>false) kR<|sD 0 U (iZ 32) (Quiet.thereOne Bn 0 3 _ _ U kR hN.lt _ (hN.cell 0) uy3 U)<|sD 1 U (.slice (some ⟨b,off,none⟩) m cap) (Quiet.thereOne Bs 0 98 _ _ U kR hS.lt _ (hS.cell 0) Sd U)<|Sy.sz 2 U U<|sD 3 U (.slice (some ⟨b,off+(32*k1)*13,none⟩) (m - (32*k1)) (cap - (32*k1))) (Quiet.pure (Dg _ _ _ b off m cap (32*k1) 13 .i64 U U U kR kF om om))<|sZ 4 U (.int .i64 (((m - (32*k1)):Nat):Int)) ?_
    obtain ⟨sz,hsz⟩:=xE (szC m k1)
    have hs:0<sz∧32*k1+sz≤m:=by rw [hsz]; unfold szC; omega
    refine sD 5 U (iZ sz) (Quiet.pure (F4 _ _ .i64 32 (m - (32*k1)) sz U U U (by rw [hsz]; unfold szC; omega)))<|Sy.sz 6 U U<|sI<|Sy.seq ?_
    have hx:k1<N:=om
    refine Sy.regionY 10 (by rintro ⟨_,_,⟨_,hv⟩,_⟩; cases hv) kR<|sp rfl<|sS (.slice (some ⟨b,off,none⟩) m cap) (Quiet.thereOne Bs 0 98 _ _ rfl kR hS.lt _ (hS.cell 0) Sd rfl)<|sp rfl<|sp rfl<|sp rfl<|sS (iZ ((32*k1)+sz)) (qad rfl rfl rfl)<|sp rfl<|sp rfl<|sS (iZ ((32*k1)+sz)) (qad rfl rfl rfl)<|sS (.slice (some ⟨b,off+(32*k1)*13,none⟩) (((32*k1)+sz) - (32*k1)) (((32*k1)+sz) - (32*k1))) (Quiet.pure (Hk _ _ _ _ _ b off m cap (32*k1) ((32*k1)+sz) ((32*k1)+sz) 13 .i64 .i64 .i64 rfl rfl rfl rfl rfl kR kF (by have:=hs; omega) (by have:=hs; omega) (by have:=hs; omega) (by have:=hs; omega)))<|Sy.nil<|Sy.yieldX (ro := none) rfl (by rintro ⟨_, _, ⟨_, hv⟩, _⟩; cases hv) kR kR l #[.slice (some ⟨b, off + (32 * k1) * 13, none⟩) (((32 * k1) + sz) - (32 * k1)) (((32 * k1) + sz) - (32 * k1))] kF (fun e W' => (e = .returned (.bool true) ∧ J (pre ++ [⟨k1, hx⟩]) W' ∧ Blk W' Bs 98 #[.slice (some ⟨b, off, none⟩) m cap] ∧ Blk W' Bn 3 #[.int .i64 32]) ∨ (e = .returned (.bool false) ∧ Jx (pre ++ [⟨k1, hx⟩]) W')) (fun w hg => by
            have e:chE b off m ⟨k1,hx⟩=#[.slice (some ⟨b,off+32*k1*13,none⟩) (32*k1+sz - 32*k1) (32*k1+sz - 32*k1)]:=by unfold chE chV; rw [← hsz,Nat.add_sub_cancel_left]
            have y:=hY pre ⟨k1,hx⟩ w (Ab hJ hj hg) om
            rw [e] at y
            exact C4 y (λe w' q=>q.imp (λq=>⟨q.1,q.2.1,q.2.2.2 (Bs,98,_) (by simp) (hg.blk hS),q.2.2.2 (Bn,3,_) (by simp) (hg.blk hN)⟩) id)) (λe w' q=>q.elim (λq=>⟨_,q.1⟩) (λq=>⟨_,q.1⟩)) U (λw2 b hr=>?_)
    cases b
    · have hx2:=hr.elim (λq=>by cases q.1) (λq=>q.2)
      refine sP (.bool true)<|sG<|sT<|Sy.ret<|Sy.in_ret<|Sy.then_ret<|Sy.then_ret<|Sy.in_ret ?_
      exact Sy.retP U (λv w3 hg=>⟨⟨_,rfl⟩,.inr ⟨pre++[⟨k1,hx⟩],⟨k1+1,by omega,by rw [List.map_append,hpre,List.range_succ]; rfl⟩,Ab hJx hx2 hg⟩⟩) (.inl U)
    · clear hS hN hj
      obtain ⟨hj,hS,hN⟩:=hr.elim (λq=>q.2) (λq=>by cases q.1)
      refine sP (.bool false)<|sG<|sU<|Sy.skip<|Sy.in_<|Sy.then_<|Sy.region<|sp U<|sS (iZ 32) (Quiet.thereOne Bn 0 3 _ _ U kR hN.lt _ (hN.cell 0) uy3 U)<|sS (iZ ((32*k1)+32)) (qad U U U)<|sp U<|Sy.nil ?_
      exact Sy.againP om ac4 (λw3 hg=>⟨pre++[⟨k1,hx⟩],by rw [List.map_append,hpre,List.range_succ]; rfl,Ab hJ hj hg,hg.blk hS,hg.blk hN⟩)
theorem SN (n l Bs Bn cap : Nat) (A : Option Addr) (J Jx : List (Fin 0) → World → Prop) (W : World) (hJ : AbidesFrom W.heap.size J)
    (hS:Blk W Bs 98 #[.slice A 0 cap]) (hN:Blk W Bn 3 #[.int .i64 32]) (h0:J [] W) :
    CallsIn Fence.wide n Tryz.prog 173 #[.func (.yield l) #[] #[],pT Bs 0,pT Bn 0] W λe W'=>(∃ v,e=.returned v)∧((∃ ys:List (Fin 0),ys.map (·.1)=List.range 0∧J ys W')∨(∃ pre:List (Fin 0),(∃ k,k≤0∧pre.map (·.1)=List.range k)∧Jx pre W')):=by
  refine Sy.enterP (args:=[.func (.yield l) #[] #[],pT Bs 0,pT Bn 0]) Tryz.func173 U kL<|sC<|sp U<|sG<|Sy.block<|Sy.loopP 0 (λk1=>[(0,.func (.yield l) #[] #[]),(1,pT Bs 0),(2,pT Bn 0),(4,iZ (32*k1))]) (λk1 w=>J [] w∧Blk w Bs 98 #[.slice A 0 cap]∧Blk w Bn 3 #[.int .i64 32]) ac4 (λw hg=>⟨Ab hJ h0 hg,hg.blk hS,hg.blk hN⟩) (λk1 wr hk1 hz=>?_)
  clear hS hN
  obtain ⟨hj,hS,hN⟩:=hz
  refine Sy.seq<|sC<|sp U<|sS (.slice A 0 cap) (Quiet.thereOne Bs 0 98 _ _ U kR hS.lt _ (hS.cell 0) Sd U)<|sP (iZ 0) ?_
  obtain ⟨b1,hb1⟩:=xE (decide (32*k1<0))
  refine sS (.bool b1) (qls U U U hb1)<|sG ?_
  cases b1
  · have lb1:=dN hb1
    refine sU<|Sy.exit<|Sy.then_exit<|Sy.then_exit ?_
    obtain rfl:k1=0:=om
    refine Sy.in_exit ?_
    exact Sy.retP U (λv w3 hg=>⟨⟨_,rfl⟩,.inl ⟨[],rfl,Ab hJ hj hg⟩⟩) (.inr U)
  · have lb1:=dY hb1
    refine sT<|Sy.skip<|Sy.then_<|Sy.seq ?_
    exact absurd lb1 om
def ak (w:World) (A:Option Addr) (n:Nat) (T:Nat→Trm) (b o:Nat):Prop:=0<n→A=some ⟨b,o,none⟩∧b<w.heap.size∧∀ j,j<n→w.rangeAt b (o+j*13) (T j).cells
theorem N6 (n Bs Bn n₀ b off m cap N : Nat) (A : Option Addr) (hN0 : N = (m + 31) / 32) (hm : m ≤ cap) (hm2 : m ≤ 4611686018427387904) (hA : 0 < m → A = some ⟨b, off, none⟩) (w : World) (hS : Blk w Bs 98 #[.slice A m cap]) (hN : Blk w Bn 3 #[.int .i64 32]) :
    SeqStopsK Fence.wide n Tryz.prog 173 #[pT Bs 0,pT Bn 0] (chE b off m (N:=N)) (KpL n₀ [(Bs,98,#[.slice A m cap]),(Bn,3,#[.int .i64 32])]) (λys=>ys.map (·.1)=List.range N) (λpre=>∃ k,k≤N∧pre.map (·.1)=List.range k) N w:=λl J Jx W hW hJ hJx hY h0=>by
  have hS':=hS.below hW hS.lt
  have hN':=hN.below hW hN.lt
  rcases Nat.eq_zero_or_pos m with h | h
  · subst h
    obtain rfl:N=0:=hN0
    exact SN n l Bs Bn cap A J Jx W hJ hS' hN' h0
  · obtain rfl:=hA h
    exact SM n l Bs Bn n₀ b off m cap N hN0 hm hm2 J Jx W hJ hJx hY hS' hN' h0
theorem Vl {w w':World} {g o o':Nat} {vs:List Value} (h:w.rangeAt g o vs) (hb:Below w.heap.size w w') (hg:g<w.heap.size) (e:o'=o):w'.rangeAt g o' vs:=λj v hj=>by
 rw [e]
 exact (Below.cell (p:=⟨g,o+j,none⟩) hb hg).trans (h j v hj)
theorem ID (w:World) (A:Option Addr) (b o n c:Nat) (T:Nat→Trm) (hnc:n≤c) (hc:n≤4611686018427387904) (hok:∀ j,(T j).ok) (hT:ak w A n T b o):AY 53 #[.slice A n c] w (Gets w (ptv (Ec.sumL AR (λt=>Ec.nm AR (T t).kn (T t).pt) (List.range n)))):=by
 obtain ⟨N,hN0⟩:=xE ((n+31) / 32)
 obtain ⟨R,hR⟩:=xE (ptJ (chL T n (List.range N)))
 have hRs:Ec.sumL AR (λt=>Ec.nm AR (T t).kn (T t).pt) (List.range n)=R:=by rw [hR,hN0]; exact (QM (W4 T n)).symm
 rw [hRs]
 have hRo:Ec.On R:=by rw [← hRs]; exact Ec.On.sumL fld _ λx _=>(T x).on.nm fld _
 obtain ⟨rx,ry,ri,_,_,eR,_,_⟩:=L2 R hRo
 rw [eR]
 refine Sy.enterM (args:=[.slice A n c]) Tryz.func53 U kL<|sC<|sM 37 (pcs 0 0 false) (λg0=>?_)
 refine sA<|sM 153 (tcs 0 0 0) (λg1=>?_)
 refine sG<|Sy.seq<|sC<|sp U<|Sy.callN kR 112 #[.slice A n c,.int .i64 32] kF (λv M=>∃ g1 g2,v=.func (.func 173) #[] #[pT g1 0,pT g2 0]∧M=[(g1,98,#[.slice A n c]),(g2,3,#[.int .i64 32])]) (λw _=>SL w _ _ _) (λv M hR0=>?_)
 obtain ⟨u1,u2,rfl,rfl⟩:=hR0
 refine sG<|Sy.block<|Sy.rangeF (α:=Fin N) 173 #[pT u1 0,pT u2 0] kR kR (enters_of Tryz.func173 kR U) (chE b o n) [(u1,98,(#[.slice A n c])),(u2,3,(#[.int .i64 32]))] (λys=>ys.map (·.1)=List.range N) (λpre=>∃ k,k≤N∧pre.map (·.1)=List.range k) N (λ_=>rfl) dZ [g0,g1,u1,u2] (λ_=>True) trivial (λpre=>[(g0,37,(pcs 0 0 false)),(g1,153,(tcs ((chL T n (pre.map (·.1))).x.val) ((chL T n (pre.map (·.1))).y.val) ((chL T n (pre.map (·.1))).z.val))),(u1,98,(#[.slice A n c])),(u2,3,(#[.int .i64 32]))]) (λpre=>[(g0,37,(pcs 0 0 false)),(g1,153,(tcs ((chL T n (pre.map (·.1))).x.val) ((chL T n (pre.map (·.1))).y.val) ((chL T n (pre.map (·.1))).z.val))),(u1,98,(#[.slice A n c])),(u2,3,(#[.int .i64 32]))]) (λ_=>False) [true,true,true,true] kR (λ_=>rfl) ?_ ?_ 0 (λx gs=>[(3,pT g1 0),(4,chV b o n x.val)]) (λx gs=>[]) (λx gs h=>by cases gs with | nil=>rfl | cons _ _=>cases h) ?_ ?_ ?_ ?_
 ·intro w hw
  have hS:=hw.get (i:=2) rfl
  have hN:=hw.get (i:=3) rfl
  exact ⟨w,Below.refl _ _,N6 8 u1 u2 _ b o n c N A hN0 hnc hc (λh=>(hT h).1) w hS hN⟩
 ·intro p hp pre
  simp only [List.mem_cons,List.not_mem_nil,or_false] at hp ⊢
  rcases hp with rfl|rfl <;> simp
 ·intro l fz pre x
  refine Sy.regionR (by rintro ⟨_,_,h⟩; exact h) kR ⟨_,rfl⟩<|sp rfl<|Sy.nil ?_
  exact Sy.apN [] rfl ac2 [true,true,true,true] kR
 ·intro l fz pre x gs hgs hlen hH
  obtain rfl:gs=[]:=List.eq_nil_of_length_eq_zero hgs
  have hxN:=x.isLt
  have hn0:0<n:=om
  refine Sy.block<|Sy.regionRD (by rintro ⟨_,_,h⟩; exact h) kR ⟨_,rfl⟩ (λj=>j == 4) kR<|sD 0 rfl (tv ((chL T n (pre.map (·.1))).x.val) ((chL T n (pre.map (·.1))).y.val) ((chL T n (pre.map (·.1))).z.val)) (qk 1 0 12 rfl rfl CM)<|sz 1 rfl rfl ?_
  obtain ⟨j1,hj1⟩:∃ z:J,z=muJ (λj=>T (x.val*32+j)) (szC n x.val) 64:=⟨_,rfl⟩
  refine sD 2 U (tv j1.x.val j1.y.val j1.z.val) (qg (λw hw=>by rw [hj1]; exact WG w b (o+32*x.val*13) (szC n x.val) (szC n x.val) (λj=>T (x.val*32+j)) (Nat.lt_of_lt_of_le (hT hn0).2.1 hw.below.size) (by unfold szC; omega) (λj=>hok _) (λj hj=>Vl ((hT hn0).2.2 (x.val*32+j) (by unfold szC at hj; omega)) hw.below (hT hn0).2.1 om))) ?_
  obtain ⟨j2,hj2⟩:∃ z:J,z=Cf (chL T n (pre.map (·.1))) j1:=⟨_,rfl⟩
  refine sD 3 U (tv j2.x.val j2.y.val j2.z.val) (qf (λw=>by rw [hj2]; exact Pp w (chL T n (pre.map (·.1))) j1))<|sx 4 U 1 U (tcs j2.x.val j2.y.val j2.z.val) (wA U)<|sE<|Sy.in_ ?_
  exact Sy.bpN [true,true,true,true] (M:=[(g0,37,(pcs 0 0 false)),(g1,153,(tcs j2.x.val j2.y.val j2.z.val)),(u1,98,(#[.slice A n c])),(u2,3,(#[.int .i64 32]))]) kR (AW U (AW (beq (by rw [hj2,hj1,List.map_append,List.map_singleton,N7]; rfl)) (AW U (AW U U)))) trivial
 ·intro D fz xs hS hH hD hm
  have hS0:xs.map (·.1)=List.range N:=hS
  refine Sy.in_<|sB<|sS (tv ((chL T n (xs.map (·.1))).x.val) ((chL T n (xs.map (·.1))).y.val) ((chL T n (xs.map (·.1))).z.val)) (qk 1 0 12 U U CM)<|sS (pv rx ry ri) (qf (λw=>by rw [← eR,hR, ← hS0]; exact Vw w _))<|sw 0 U (pcs rx ry ri) (wA U)<|sG<|Sy.ret ?_
  exact Sy.retM1 (v:=pv rx ry ri) rfl (.inl (Res.cell (ty':=37) g0 0 (pcs rx ry ri) _ kR kR AX U kR kR)) hD hm
 ·intro D fz pre hS hx hD hm
  exact hx.elim
theorem Te {w:World} {g:Nat} {vs:List Value} (h:w.rangeAt g 0 vs):∀ j,j<1→w.rangeAt g (0+j*13) vs:=λj hj=>by
 obtain rfl:j=0:=om
 exact h
def pX:Pt→Nat
 | none=>0
 | some (x,_)=>x.val
def pY:Pt→Nat
 | none=>0
 | some (_,y)=>y.val
def pI:Pt→Bool
 | none=>true
 | some _=>false
theorem Ak:∀ P:Pt,ptv P=pv (pX P) (pY P) (pI P)
 | none=>rfl
 | some (_,_)=>rfl
theorem B_:∀ P:Pt,pX P<K4
 | none=>by show 0<_; decide
 | some (x,_)=>lt4 x
theorem B9:∀ P:Pt,pY P<K4
 | none=>by show 0<_; decide
 | some (_,y)=>lt4 y
theorem Ap:∀ {P:Pt},Ec.On P→dec (pX P) (pY P) (pI P)=P
 | none,_=>Ny
 | some (x,y),h=>GQ x y h
theorem Ds {P:Pt} (h:Ec.On P):A6 (pX P) (pY P) (pI P)=true:=by
 rcases P with _ | ⟨x,y⟩
 ·rfl
 ·show A6 x.val y.val false=true
  rw [TO,show y*y=x*x*x+7 from h]
  simp
theorem WH (w:World) (k x y:Nat) (i:Bool) (hk:k<K4) (hx:x<K4) (hy:y<K4):AY 187 #[fv k,pv x y i] w (Gets w (ptv (Ec.nm AR (k%Sc.pM) (dec x y i)))):=by
 obtain ⟨R,hR⟩:=xE (Ec.sumL AR (λt=>Ec.nm AR ((λ_:Nat=>(⟨k,x,y,i⟩:Trm)) t).kn ((λ_:Nat=>(⟨k,x,y,i⟩:Trm)) t).pt) (List.range 1))
 have e:Ec.nm AR (k%Sc.pM) (dec x y i)=R:=by rw [hR]; exact (Ec.zero_add (inv:=AR) _).symm
 rw [e,Ak]
 refine Sy.enter (args:=[fv k,pv x y i]) Tryz.func187 U kL<|sC<|sM 26 (fcs k) (λg0=>?_)
 refine sM 37 (pcs x y i) (λg1=>?_)
 refine sM 37 (pcs 0 0 false) (λg2=>?_)
 refine sA<|sS (fv k) (qk 0 0 4 U U Au)<|sS (pv x y i) (qk 1 0 9 U U AX)<|sP (trv k x y i)<|Sy.make kR 97 (VJ k x y i) (λg=>.slice (pA g) 1 1) kF (λg3=>?_)
 refine sS (pv (pX R) (pY R) (pI R)) (qg (λw hw=>by rw [← Ak,hR]; exact ID w _ g3 0 1 1 (λ_=>⟨k,x,y,i⟩) (Nat.le_refl _) dZ (λ_=>⟨hk,hx,hy⟩) (λ_=>⟨rfl,(hw.get (i:=3) rfl).lt,Te (CJ (hw.get (i:=3) rfl) kR)⟩)))<|sw 2 U (pcs (pX R) (pY R) (pI R)) (wA U)<|sG<|Sy.ret ?_
 exact rc (v:=pv (pX R) (pY R) (pI R)) 2 U U AX
end Cu
end
section
namespace Sc
open Go.RowKit Go.Lib
def MC:Value:=.agg #[.int .u64 13822214165235122497,.int .u64 13451932020343611451,.int .u64 18446744073709551614,.int .u64 18446744073709551615,.int .u64 4624529908474429119,.int .u64 4994812053365940164,.int .u64 1]
theorem PQ:fv 115792089237316195423570985008687907852837564279074904382605163141518161494337=.agg #[.int .u64 13822214165235122497,.int .u64 13451932020343611451,.int .u64 18446744073709551614,.int .u64 18446744073709551615]:=rfl
theorem refN_any (w:World):Calls Tryz.prog 50 #[] w λe w'=>e=.returned MC∧Below w.heap.size w w':=by
 go_enter Tryz.func50,Tryz.ntmps50
 go_wp2
 exact bodyPost_ret (results_cell_row U _ _ w.heap.size _ _ (0,0) _ U (heap_alloc_new w _) FT U kZ) rfl ⟨rfl,(Below.refl _ _).alloc (Nat.le_refl _) _⟩
theorem refOf_any (w:World) (n:Nat) (hn:n<(2^256)):Calls Tryz.prog 51 #[fv n] w λe w'=>e=.returned (fv n)∧Below w.heap.size w w':=by
 obtain ⟨a,b,c,d,fn⟩:=Ae n hn
 rw [fn]
 clear fn
 go_enter Tryz.func51,Tryz.ntmps51
 go_wp2
 exact bodyPost_ret (results_cell_row U _ _ (w.heap.size+1) _ _ (0,0) _ U (heap_alloc2_new w _ _) AM U kZ) rfl ⟨rfl,Ad w _ _⟩
theorem normR_any (w:World) (x:Nat) (hx:x<(2^256)):Calls Tryz.prog 49 #[MC,fv x] w λe w'=>e=.returned (fv (x%pM))∧Below w.heap.size w w':=by
 obtain ⟨z,hz⟩:=xE (x%pM)
 obtain ⟨p,hp⟩:∃ p,p=115792089237316195423570985008687907852837564279074904382605163141518161494337:=⟨_,rfl⟩
 have hpl:p<(2^256):=om
 obtain ⟨b,hb⟩:=xE (decide (x<p))
 have cb:∀ w,Calls Tryz.prog 108 #[fv x,fv p] w λe w'=>e=.returned (.bool b)∧Below w.heap.size w w':=by
  intro w; rw [hb]; exact KJ w x p U U hx hpl
 have t1:b=true→z=x:=λh=>by
  rw [hb] at h
  rw [hz]
  exact Nat.mod_eq_of_lt (by rw [Er, ← hp]; simpa using h)
 have cm:b=false→∀ w,Calls Tryz.prog 109 #[fv x,fv p] w λe w'=>e=.returned (fv z)∧Below w.heap.size w w':=λh w=>by
  rw [hb] at h
  have hle:¬ x<p:=by simpa using h
  have hzx:z+p=x:=by rw [hz,G5 x hx,if_neg om]; omega
  exact GK w x p z 0 U U hx hpl om om
 have hpc:fv p=.agg #[.int .u64 13822214165235122497,.int .u64 13451932020343611451,.int .u64 18446744073709551614,.int .u64 18446744073709551615]:=by rw [hp]; exact PQ
 obtain ⟨x0,x1,x2,x3,fx⟩:=Ae x hx
 have FX:=Lib.hid fx
 have FP:=Lib.hid hpc
 rw [fx, ← hz]
 unfold MC
 clear fx hpc hx hz hp hpl hb
 go_enter Tryz.func49,Tryz.ntmps49
 go_wp2_with (first | ((with_reducible refine AD (d:=some 6) ?_); refine AB U _ _ U (w.heap.size+1) rfl x _ _ _ ((AZ w _ _ _).alloc _) FX.out AM U kZ ?_) | ((with_reducible refine AD (d:=some 8) ?_); refine CF U _ _ U w.heap.size U p [.int .u64 13822214165235122497,.int .u64 13451932020343611451,.int .u64 18446744073709551614,.int .u64 18446744073709551615] _ (DA (((Blk.new w _ _).alloc _).alloc _)) FP.out AM U kZ ?_))
 refine (cb _).mono ?_
 rintro e w1 ⟨rfl,k1⟩
 have BM:Blk w1 w.heap.size 91 _:=Gr.blk k1 (((Blk.new w _ _).alloc _).alloc _)
 have BX:Blk w1 (w.heap.size+1) 87 _:=Gr.blk k1 ((AZ w _ _ _).alloc _)
 have BR:Blk w1 (w.heap.size+2) 87 _:=Gr.blk k1 (Ax w _ _ _ _)
 have hB:=Below.gr (Ac w _ _ _) k1
 clear k1 cb
 cases b
 ·have cmm:=cm U
  clear cm t1
  go_wp2_with (first | ((with_reducible refine AD (d:=some 12) ?_); refine AB U _ _ U (w.heap.size+1) rfl x _ _ _ BX FX.out AM U kZ ?_) | ((with_reducible refine AD (d:=some 14) ?_); refine CF U _ _ U w.heap.size U p [.int .u64 13822214165235122497,.int .u64 13451932020343611451,.int .u64 18446744073709551614,.int .u64 18446744073709551615] _ (DA BM) FP.out AM U kZ ?_))
  refine (cmm _).mono ?_
  rintro e w2 ⟨rfl,k2⟩
  have BR2:=Gr.blk k2 BR
  have hB2:=Below.gr hB k2
  clear k2 cmm
  go_wp2_with ((with_reducible refine AE ?_); refine AA U _ _ _ U (w.heap.size+2) (fcs z) U U _ _ BR2 kZ (by rfl) (AG _) ?_; intro w9 hL9 hB9 hK9)
  exact bodyPost_ret (results_cell_row U _ _ (w.heap.size+2) _ _ (0,0) _ U hL9 AM U kZ) rfl ⟨rfl,hB2.trans (hB9 _ om)⟩
 ·have HZX:=Lib.hid (t1 U)
  clear t1 cm
  go_wp2_with (first | ((with_reducible refine AD (d:=some 11) ?_); refine AB U _ _ U (w.heap.size+1) rfl x _ _ _ BX FX.out AM U kZ ?_) | ((with_reducible refine AE ?_); refine AA U _ _ _ U (w.heap.size+2) (fcs x) U U _ _ BR kZ (by rfl) (AG _) ?_; intro w9 hL9 hB9 hK9))
  exact bodyPost_ret (results_cell_row U _ _ (w.heap.size+2) _ _ (0,0) _ U hL9 AM U kZ) rfl ⟨by rw [HZX.out]; rfl,hB.trans (hB9 _ om)⟩
end Sc
end
section
namespace Cu
open Go.RowKit Sy
def bt (j:Nat):Nat:=9223372036854775808 / 2 ^ j
theorem Eh (j:Nat):bt j / 2=bt (j+1):=by unfold bt; rw [Nat.div_div_eq_div_mul,Nat.pow_succ]
theorem FN (j:Nat):bt j<18446744073709551616:=Nat.lt_of_le_of_lt (Nat.div_le_self _ _) dZ
theorem Xh {j:Nat} (h:j<64):bt j=2 ^ (63 - j):=by
 unfold bt
 rw [show (9223372036854775808:Nat)=2 ^ (63 - j)*2 ^ j by rw [← Nat.pow_add,show 63 - j+j=63 by omega],Nat.mul_div_cancel _ (Nat.two_pow_pos j)]
theorem MW (j:Nat):0<bt j↔j<64:=by
 constructor
 ·intro h
  rcases Nat.lt_or_ge j 64 with hl | hl
  ·exact hl
  ·exfalso
   unfold bt at h
   rw [Nat.div_eq_of_lt (Nat.lt_of_lt_of_le (show 9223372036854775808<2 ^ 64 by decide) (Nat.pow_le_pow_right dZ hl))] at h
   omega
 ·intro h
  rw [Xh h]
  exact Nat.two_pow_pos _
theorem GA (z j:Nat) (hj:j<64):(z &&& bt j≠0)↔z / 2 ^ (63 - j)%2=1:=by
 rw [Xh hj]
 have e:z.testBit (63 - j)=decide (z / 2 ^ (63 - j)%2=1):=Nat.testBit_eq_decide_div_mod_eq
 generalize 63 - j=i at e ⊢
 by_cases h:z / 2 ^ i%2=1
 ·refine ⟨λ_=>h,λ_ h0=>?_⟩
  have h1:=congrArg (λt=>t.testBit i) h0
  simp [Nat.testBit_and,Nat.testBit_two_pow_self,e,h] at h1
 ·refine ⟨λh0=>(h0 (Nat.eq_of_testBit_eq λk=>?_)).elim,λh0=>(h h0).elim⟩
  rw [Nat.testBit_and,Nat.zero_testBit,Nat.testBit_two_pow]
  by_cases hk:i=k
  ·subst hk
   simp [e,h]
  ·simp [hk]
theorem Hm (F:AO) (o:Oper) (t:TypeId) (x y:Operand) {yt:TypeId} (z b:Nat) (hz:z<18446744073709551616) (hb:b<18446744073709551616) (ho:o.op=.binOp .and t x y yt) (hx:evF F x=qv z) (hy:evF F y=.int .u64 (b:Int)) (w:World):(execOp (evF F) o).run Tryz.prog w=.ok (.value (.int .u64 ((z &&& b:Nat):Int))) w :=
 AK .and t x y .u64 (z:Int) (b:Int) _ ho hx hy (MH t .u64 _ _ _ (by
  have e:((BitVec.ofInt IntKind.u64.bits (z:Int) &&& BitVec.ofInt IntKind.u64.bits (b:Int)).toNat)=z &&& b:=by
   show ((BitVec.ofInt 64 (z:Int) &&& BitVec.ofInt 64 (b:Int)).toNat)=_
   rw [BitVec.toNat_and,BitVec.ofInt_natCast,BitVec.ofInt_natCast,BitVec.toNat_ofNat,BitVec.toNat_ofNat,Nat.mod_eq_of_lt om,Nat.mod_eq_of_lt om]
  rw [e]
  have h:z &&& b≤z:=Nat.and_le_left
  exact wrap_u64 om om)) w
def A4 (m:Nat) (x y:Fp):Nat→J
 | 0=>⟨0,0,0⟩
 | t+1=>if m / 2 ^ (255 - t)%2=1 then Bz (CX (A4 m x y t)) x y else CX (A4 m x y t)
theorem F9 {m:Nat} {x y:Fp} {t:Nat} (h:m / 2 ^ (255 - t)%2=1):A4 m x y (t+1)=Bz (CX (A4 m x y t)) x y:=if_pos h
theorem Hr {m:Nat} {x y:Fp} {t:Nat} (h:¬ m / 2 ^ (255 - t)%2=1):A4 m x y (t+1)=CX (A4 m x y t):=if_neg h
theorem OE {m:Nat} (hm:m<2 ^ 256) {x y:Fp} (h:y*y=x*x*x+7):∀ t,t≤256→Ec.Rep (A4 m x y t) (Ec.nm AR (m / 2 ^ (256 - t)) (some (x,y)))
 | 0,_=>by
  rw [Nat.sub_zero,Nat.div_eq_of_lt hm]
  rfl
 | t+1,ht=>by
  have hP:Ec.On (some (x,y)):=h
  have h1:=OE hm h t om
  have hS:=hP.nm fld (m / 2 ^ (256 - t))
  have h2:=N0 hS h1
  have e:=Ec.bit_step fld hP m (2 ^ (255 - t))
  rw [← Nat.pow_succ',show (255 - t).succ=256 - t by omega] at e
  rw [show 256 - (t+1)=255 - t by omega, ← e]
  by_cases hb:m / 2 ^ (255 - t)%2=1
  ·rw [F9 hb,hb,Ec.nm_one]
   exact Rb (Ec.On.add fld hS hS) h h2
  ·rw [Hr hb,show m / 2 ^ (255 - t)%2=0 by omega,show Ec.nm AR 0 (some (x,y))=none from rfl,Ec.add_zero]
   exact h2
theorem Dz (m i j:Nat) (hj:j<64):m / 2 ^ (64*i)%18446744073709551616 / 2 ^ (63 - j)%2=m / 2 ^ (64*i+(63 - j))%2:=by
 rw [Nat.pow_add, ← Nat.div_div_eq_div_mul,show (18446744073709551616:Nat)=2 ^ (63 - j)*2 ^ (j+1) by rw [← Nat.pow_add,show 63 - j+(j+1)=64 by omega],Nat.mod_mul_right_div_self,Nat.pow_succ',Nat.mod_mul_right_mod]
theorem Kf (m j:Nat) (hj:j<64):m%18446744073709551616 / 2 ^ (63 - j)%2=m / 2 ^ (64*0+(63 - j))%2:=by
 have q:=Dz m 0 j hj
 rw [Nat.mul_zero,Nat.pow_zero,Nat.div_one] at q
 exact q
def aa:Array Value:=#[.int .u64 13822214165235122497,.int .u64 13451932020343611451,.int .u64 18446744073709551614,.int .u64 18446744073709551615,.int .u64 4624529908474429119,.int .u64 4994812053365940164,.int .u64 1]
theorem PE (w:World) (k x y:Nat) (i:Bool) (hk:k<K4) (hx:x<K4) (hy:y<K4) (h:dec x y i=none):AY 29 #[fv k,pv x y i] w (Gets w (ptv none)):=by
 refine Sy.enter (args:=[fv k,pv x y i]) Tryz.func29 U kL<|sC<|sM 26 (fcs k) (λg0=>?_)
 refine sM 37 (pcs x y i) (λg1=>?_)
 refine sM 37 (pcs 0 0 false) (λg2=>?_)
 refine sA<|sS (pv x y i) (qk 1 0 9 U U AX)<|sS (pv 0 0 true) (qf (λw=>by have hrr:=DY w x y i hx hy; rw [h] at hrr; exact hrr))<|sw 1 U (pcs 0 0 true) (wA U)<|sG<|Sy.seq<|sC<|sP (pT g1 8)<|sS (.bool true) (qc 1 8 U U uy4)<|sG<|sT<|sC<|sS (pv 0 0 true) (qk 1 0 9 U U AX)<|sw 2 U (pcs 0 0 true) (wA U)<|sG<|Sy.ret<|Sy.then_ret ?_
 rw [show (ptv none:Value)=pv 0 0 true from rfl]
 exact rc (v:=pv 0 0 true) 2 U U AX
theorem PD (w:World) (k x y:Nat) (i:Bool) (hk:k<K4) (hx:x<K4) (hy:y<K4) (u v:Fp) (h:dec x y i=some (u,v)) (ho:v*v=u*u*u+7):AY 29 #[fv k,pv x y i] w (Gets w (ptv (Ec.nm AR (k%Sc.pM) (some (u,v))))):=by
 obtain ⟨m,hm⟩:=xE (k%Sc.pM)
 obtain ⟨Q,hQ⟩:=xE (ptJ (A4 m u v 256))
 have hml:m<K4:=by rw [hm]; exact Sc.mod_lt k
 have hn:Ec.nm AR (k%Sc.pM) (some (u,v))=Q:=by
  have q:=OE (m:=m) hml ho 256 (Nat.le_refl _)
  rw [Nat.sub_self,Nat.pow_zero,Nat.div_one] at q
  rw [← hm,hQ]
  exact (QM q).symm
 rw [hn]
 refine Sy.enter (args:=[fv k,pv x y i]) Tryz.func29 U kL<|sC<|sM 26 (fcs k) (λg0=>?_)
 refine sM 37 (pcs x y i) (λg1=>?_)
 refine sM 37 (pcs 0 0 false) (λg2=>?_)
 refine sA<|sS (pv x y i) (qk 1 0 9 U U AX)<|sS (pv u.val v.val false) (qf (λw=>by have hrr:=DY w x y i hx hy; rw [h] at hrr; exact hrr))<|sw 1 U (pcs u.val v.val false) (wA U)<|sG<|Sy.seq<|sC<|sP (pT g1 8)<|sS (.bool false) (qc 1 8 U U uy4)<|sG<|sU<|Sy.skip<|sR (λj=>j == 5) ?_
 refine sD 0 U (.agg aa) (qf Sc.refN_any)<|sD 1 U (fv k) (qk 0 0 4 U U Au)<|sD 2 U (fv k) (qf (λw=>Sc.refOf_any w k lK))<|sD 3 U (fv m) (qf (λw=>by rw [hm]; exact Sc.normR_any w k hk))<|sO 4 U 87 (fcs 0) (λg3=>?_)
 refine sx 5 U 3 U (fcs m) (wA U)<|sE<|sB<|sP (pT g1 0)<|sS (fv u.val) (qk 1 0 4 U U AN)<|sS (fv u.val) (qf (λw=>refOf_any w u.val lK))<|sM 87 (fcs 0) (λg4=>?_)
 refine sw 4 U (fcs u.val) (wA U)<|sA<|sP (pT g1 4)<|sS (fv v.val) (qk 1 4 4 U U AN)<|sS (fv v.val) (qf (λw=>refOf_any w v.val lK))<|sM 87 (fcs 0) (λg5=>?_)
 refine sW 5 g5 87 (fcs 0) (fcs v.val) (wS 0 87 (fcs v.val) rfl)<|sA<|sP (tv 0 0 0)<|sM 111 (tcs 0 0 0) (λg6=>?_)
 refine sW 6 g6 111 (tcs 0 0 0) (tcs 0 0 0) (wS 0 111 (tcs 0 0 0) rfl)<|sG<|Sy.seq<|sC<|sp U<|sG<|Sy.block<|Sy.loopN 5<|Sy.tidyR (G:=[(4,pT g2 0),(5,pT g3 0),(6,pT g4 0),(7,pT g5 0),(8,pT g6 0),(9,.int .i64 3)]) (M:=[(g2,37,(pcs 0 0 false)),(g3,87,(fcs m)),(g4,87,(fcs u.val)),(g5,87,(fcs v.val)),(g6,111,(tcs 0 0 0))]) [false,false,true,true,true,true,true] kR ac6<|Sy.round<|Sy.seq<|sC<|sp U<|sP (.bool true)<|sG<|sT<|Sy.skip<|Sy.then_<|Sy.seq<|Sy.block<|sC<|sp U<|sG<|Sy.block ?_
 refine Sy.loopK 64 (λk2x0=>[(4,pT g2 0),(5,pT g3 0),(6,pT g4 0),(7,pT g5 0),(8,pT g6 0),(9,.int .i64 3),(10,uZ ((bt k2x0:Nat):Int))]) (λk2x0=>[(g2,37,(pcs 0 0 false)),(g3,87,(fcs m)),(g4,87,(fcs u.val)),(g5,87,(fcs v.val)),(g6,111,(tcs ((A4 m u v (0+k2x0)).x.val) ((A4 m u v (0+k2x0)).y.val) ((A4 m u v (0+k2x0)).z.val)))]) [true,true,true,true,true] (M:=[(g2,37,(pcs 0 0 false)),(g3,87,(fcs m)),(g4,87,(fcs u.val)),(g5,87,(fcs v.val)),(g6,111,(tcs 0 0 0))]) ac7 kR (AW U (AW U (AW U (AW U (AW U U))))) (λk2x0 hk2x0=>?_)
 refine Sy.seq<|sC<|sp U ?_
 obtain ⟨b1,hb1⟩:=xE (decide (k2x0<64))
 refine sS (.bool b1) (Quiet.pure (AK .gtr _ _ _ .u64 _ _ _ U U U (DK _ _ _ _ _ (by rw [hb1]; exact decide_eq_decide.2 (by rw [← MW]; omega)))))<|sG ?_
 cases b1
 ·have lb1:=dN hb1
  refine sU<|Sy.exit<|Sy.then_exit<|Sy.then_exit ?_
  obtain rfl:k2x0=64:=om
  refine Sy.in_exit<|Sy.in_<|Sy.then_<|Sy.region<|sp U<|sP (.int .i64 2)<|sp U<|Sy.nil<|Sy.again<|Sy.tidyR (G:=[(4,pT g2 0),(5,pT g3 0),(6,pT g4 0),(7,pT g5 0),(8,pT g6 0),(9,.int .i64 2)]) (M:=[(g2,37,(pcs 0 0 false)),(g3,87,(fcs m)),(g4,87,(fcs u.val)),(g5,87,(fcs v.val)),(g6,111,(tcs ((A4 m u v (0+64)).x.val) ((A4 m u v (0+64)).y.val) ((A4 m u v (0+64)).z.val)))]) [true,true,true,true,true] kR ac6<|Sy.round<|Sy.seq<|sC<|sp U<|sP (.bool true)<|sG<|sT<|Sy.skip<|Sy.then_<|Sy.seq<|Sy.block<|sC<|sp U<|sG<|Sy.block<|Sy.loopK 64 (λk2x1=>[(4,pT g2 0),(5,pT g3 0),(6,pT g4 0),(7,pT g5 0),(8,pT g6 0),(9,.int .i64 2),(10,uZ ((bt k2x1:Nat):Int))]) (λk2x1=>[(g2,37,(pcs 0 0 false)),(g3,87,(fcs m)),(g4,87,(fcs u.val)),(g5,87,(fcs v.val)),(g6,111,(tcs ((A4 m u v (64+k2x1)).x.val) ((A4 m u v (64+k2x1)).y.val) ((A4 m u v (64+k2x1)).z.val)))]) [true,true,true,true,true] (M:=[(g2,37,(pcs 0 0 false)),(g3,87,(fcs m)),(g4,87,(fcs u.val)),(g5,87,(fcs v.val)),(g6,111,(tcs ((A4 m u v (0+64)).x.val) ((A4 m u v (0+64)).y.val) ((A4 m u v (0+64)).z.val)))]) ac7 kR (AW U (AW U (AW U (AW U (AW U U))))) (λk2x1 hk2x1=>?_)
  refine Sy.seq<|sC<|sp U ?_
  obtain ⟨b2,hb2⟩:=xE (decide (k2x1<64))
  refine sS (.bool b2) (Quiet.pure (AK .gtr _ _ _ .u64 _ _ _ U U U (DK _ _ _ _ _ (by rw [hb2]; exact decide_eq_decide.2 (by rw [← MW]; omega)))))<|sG ?_
  cases b2
  ·have lb2:=dN hb2
   refine sU<|Sy.exit<|Sy.then_exit<|Sy.then_exit ?_
   obtain rfl:k2x1=64:=om
   refine Sy.in_exit<|Sy.in_<|Sy.then_<|Sy.region<|sp U<|sP (.int .i64 1)<|sp U<|Sy.nil<|Sy.again<|Sy.tidyR (G:=[(4,pT g2 0),(5,pT g3 0),(6,pT g4 0),(7,pT g5 0),(8,pT g6 0),(9,.int .i64 1)]) (M:=[(g2,37,(pcs 0 0 false)),(g3,87,(fcs m)),(g4,87,(fcs u.val)),(g5,87,(fcs v.val)),(g6,111,(tcs ((A4 m u v (64+64)).x.val) ((A4 m u v (64+64)).y.val) ((A4 m u v (64+64)).z.val)))]) [true,true,true,true,true] kR ac6<|Sy.round<|Sy.seq<|sC<|sp U<|sP (.bool true)<|sG<|sT<|Sy.skip<|Sy.then_<|Sy.seq<|Sy.block<|sC<|sp U<|sG<|Sy.block<|Sy.loopK 64 (λk2x2=>[(4,pT g2 0),(5,pT g3 0),(6,pT g4 0),(7,pT g5 0),(8,pT g6 0),(9,.int .i64 1),(10,uZ ((bt k2x2:Nat):Int))]) (λk2x2=>[(g2,37,(pcs 0 0 false)),(g3,87,(fcs m)),(g4,87,(fcs u.val)),(g5,87,(fcs v.val)),(g6,111,(tcs ((A4 m u v (128+k2x2)).x.val) ((A4 m u v (128+k2x2)).y.val) ((A4 m u v (128+k2x2)).z.val)))]) [true,true,true,true,true] (M:=[(g2,37,(pcs 0 0 false)),(g3,87,(fcs m)),(g4,87,(fcs u.val)),(g5,87,(fcs v.val)),(g6,111,(tcs ((A4 m u v (64+64)).x.val) ((A4 m u v (64+64)).y.val) ((A4 m u v (64+64)).z.val)))]) ac7 kR (AW U (AW U (AW U (AW U (AW U U))))) (λk2x2 hk2x2=>?_)
   refine Sy.seq<|sC<|sp U ?_
   obtain ⟨b3,hb3⟩:=xE (decide (k2x2<64))
   refine sS (.bool b3) (Quiet.pure (AK .gtr _ _ _ .u64 _ _ _ U U U (DK _ _ _ _ _ (by rw [hb3]; exact decide_eq_decide.2 (by rw [← MW]; omega)))))<|sG ?_
   cases b3
   ·have lb3:=dN hb3
    refine sU<|Sy.exit<|Sy.then_exit<|Sy.then_exit ?_
    obtain rfl:k2x2=64:=om
    refine Sy.in_exit<|Sy.in_<|Sy.then_<|Sy.region<|sp U<|sP (.int .i64 0)<|sp U<|Sy.nil<|Sy.again<|Sy.tidyR (G:=[(4,pT g2 0),(5,pT g3 0),(6,pT g4 0),(7,pT g5 0),(8,pT g6 0),(9,.int .i64 0)]) (M:=[(g2,37,(pcs 0 0 false)),(g3,87,(fcs m)),(g4,87,(fcs u.val)),(g5,87,(fcs v.val)),(g6,111,(tcs ((A4 m u v (128+64)).x.val) ((A4 m u v (128+64)).y.val) ((A4 m u v (128+64)).z.val)))]) [true,true,true,true,true] kR ac6<|Sy.round<|Sy.seq<|sC<|sp U<|sP (.bool true)<|sG<|sT<|Sy.skip<|Sy.then_<|Sy.seq<|Sy.block<|sC<|sp U<|sG<|Sy.block<|Sy.loopK 64 (λk2x3=>[(4,pT g2 0),(5,pT g3 0),(6,pT g4 0),(7,pT g5 0),(8,pT g6 0),(9,.int .i64 0),(10,uZ ((bt k2x3:Nat):Int))]) (λk2x3=>[(g2,37,(pcs 0 0 false)),(g3,87,(fcs m)),(g4,87,(fcs u.val)),(g5,87,(fcs v.val)),(g6,111,(tcs ((A4 m u v (192+k2x3)).x.val) ((A4 m u v (192+k2x3)).y.val) ((A4 m u v (192+k2x3)).z.val)))]) [true,true,true,true,true] (M:=[(g2,37,(pcs 0 0 false)),(g3,87,(fcs m)),(g4,87,(fcs u.val)),(g5,87,(fcs v.val)),(g6,111,(tcs ((A4 m u v (128+64)).x.val) ((A4 m u v (128+64)).y.val) ((A4 m u v (128+64)).z.val)))]) ac7 kR (AW U (AW U (AW U (AW U (AW U U))))) (λk2x3 hk2x3=>?_)
    refine Sy.seq<|sC<|sp U ?_
    obtain ⟨b4,hb4⟩:=xE (decide (k2x3<64))
    refine sS (.bool b4) (Quiet.pure (AK .gtr _ _ _ .u64 _ _ _ U U U (DK _ _ _ _ _ (by rw [hb4]; exact decide_eq_decide.2 (by rw [← MW]; omega)))))<|sG ?_
    cases b4
    ·have lb4:=dN hb4
     refine sU<|Sy.exit<|Sy.then_exit<|Sy.then_exit ?_
     obtain rfl:k2x3=64:=om
     refine Sy.in_exit<|Sy.in_<|Sy.then_<|Sy.region<|sp U<|sP (.int .i64 (-1))<|sp U<|Sy.nil<|Sy.again<|Sy.tidyR (G:=[(4,pT g2 0),(5,pT g3 0),(6,pT g4 0),(7,pT g5 0),(8,pT g6 0),(9,.int .i64 (-1))]) (M:=[(g2,37,(pcs 0 0 false)),(g3,87,(fcs m)),(g4,87,(fcs u.val)),(g5,87,(fcs v.val)),(g6,111,(tcs ((A4 m u v (192+64)).x.val) ((A4 m u v (192+64)).y.val) ((A4 m u v (192+64)).z.val)))]) [true,true,true,true,true] kR ac6<|Sy.round<|Sy.seq<|sC<|sp U<|sP (.bool false)<|sG<|sU<|Sy.exit<|Sy.then_exit<|Sy.then_exit<|Sy.in_exit<|Sy.then_<|Sy.seq<|sC<|sP (pT g6 8)<|sS (fv ((A4 m u v (192+64)).z.val)) (qk 4 8 4 U U AM)<|sP (fv 0) ?_
     obtain ⟨b5,hb5⟩:=xE (decide ((A4 m u v (192+64)).z.val=0))
     refine sS (.bool b5) (Quiet.pure (λw=>by rw [hb5]; exact Ed w _ _ _ _ _ _ U U U lK lK))<|sG ?_
     cases b5
     ·have eb5:(A4 m u v (192+64)).z≠(0:Fp):=λe=>of_decide_eq_false hb5.symm (congrArg Fin.val e)
      refine sU<|Sy.skip<|sR (λj=>j == 5) ?_
      refine sD 0 U (.agg De) (qf Cl)<|sZ 1 U (pT g6 8)<|sD 2 U (fv ((A4 m u v (192+64)).z.val)) (qk 4 8 4 U U AM) ?_
      obtain ⟨z1,hz1⟩:∃ z:Fp,z=AR (A4 m u v (192+64)).z:=⟨_,rfl⟩
      refine sD 3 U (fv z1.val) (qf (λw=>by rw [hz1]; exact Ji w (A4 m u v (192+64)).z))<|sO 4 U 87 (fcs 0) (λg7=>?_)
      refine sx 5 U 5 U (fcs z1.val) (wA U)<|sE<|sB<|sS (fv z1.val) (qk 5 0 4 U U AM)<|sS (fv z1.val) (qk 5 0 4 U U AM) ?_
      obtain ⟨z2,hz2⟩:∃ z:Fp,z=z1*z1:=⟨_,rfl⟩
      refine sS (fv z2.val) (qf (λw=>by rw [hz2]; exact BQ w z1 z1))<|sM 87 (fcs 0) (λg8=>?_)
      refine sw 6 U (fcs z2.val) (wA U)<|sH (λj=>j == 11) ?_
      refine sZ 0 U (pT g6 0)<|sD 1 U (fv ((A4 m u v (192+64)).x.val)) (qk 4 0 4 U U AM)<|sD 2 U (fv z2.val) (qk 6 0 4 U U AM) ?_
      obtain ⟨z3,hz3⟩:∃ z:Fp,z=(A4 m u v (192+64)).x*z2:=⟨_,rfl⟩
      refine sD 3 U (fv z3.val) (qf (λw=>by rw [hz3]; exact BQ w (A4 m u v (192+64)).x z2))<|sZ 4 U (pT g6 4)<|sD 5 U (fv ((A4 m u v (192+64)).y.val)) (qk 4 4 4 U U AM)<|sD 6 U (fv z2.val) (qk 6 0 4 U U AM)<|sD 7 U (fv z1.val) (qk 5 0 4 U U AM) ?_
      obtain ⟨z4,hz4⟩:∃ z:Fp,z=z2*z1:=⟨_,rfl⟩
      refine sD 8 U (fv z4.val) (qf (λw=>by rw [hz4]; exact BQ w z2 z1)) ?_
      obtain ⟨z5,hz5⟩:∃ z:Fp,z=(A4 m u v (192+64)).y*z4:=⟨_,rfl⟩
      refine sD 9 U (fv z5.val) (qf (λw=>by rw [hz5]; exact BQ w (A4 m u v (192+64)).y z4))<|sD 10 U (pv z3.val z5.val false) (qf (λw=>G8 w z3.val z5.val lK lK))<|sx 11 U 0 U (pcs z3.val z5.val false) (wA U)<|sI<|Sy.ret ?_
      rw [show (ptv Q:Value)=pv z3.val z5.val false from by rw [hQ]; unfold ptJ; rw [if_neg eb5]; unfold ptv; simp only [hz5,hz4,hz3,hz2,hz1]]
      exact rc (v:=pv z3.val z5.val false) 0 U U AX
     ·have eb5:(A4 m u v (192+64)).z=(0:Fp):=Fin.ext (of_decide_eq_true hb5.symm)
      refine sT<|sC<|sS (pv 0 0 true) (qf GB)<|sw 0 U (pcs 0 0 true) (wA U)<|sG<|Sy.ret<|Sy.then_ret ?_
      rw [show (ptv Q:Value)=pv 0 0 true from by rw [hQ]; unfold ptJ; rw [if_pos eb5]; rfl]
      exact rc (v:=pv 0 0 true) 0 U U AX
    ·have lb4:=dY hb4
     refine sT<|Sy.skip<|Sy.then_<|Sy.seq<|Sy.block<|sC<|sS (tv ((A4 m u v (192+k2x3)).x.val) ((A4 m u v (192+k2x3)).y.val) ((A4 m u v (192+k2x3)).z.val)) (qk 4 0 12 U U Dm) ?_
     obtain ⟨j1,hj1⟩:∃ z:J,z=CX (A4 m u v (192+k2x3)):=⟨_,rfl⟩
     refine sS (tv j1.x.val j1.y.val j1.z.val) (qf (λw=>by rw [hj1]; exact Fh w (A4 m u v (192+k2x3))))<|sw 4 U (tcs j1.x.val j1.y.val j1.z.val) (wA U)<|sA<|sp U<|sP (pT g3 0)<|sS (qv (m%18446744073709551616)) (qc 1 0 U U B2)<|sp U<|sS (uZ (((m%18446744073709551616) &&& bt k2x3:Nat):Int)) (Quiet.pure (Hm _ _ _ _ _ (m%18446744073709551616) (bt k2x3) (Nat.mod_lt _ dZ) (FN _) rfl U U)) ?_
     obtain ⟨b6,hb6⟩:=xE (decide ((m%18446744073709551616) &&& bt k2x3≠0))
     refine sS (.bool b6) (Quiet.pure (AK .neq _ _ _ .u64 _ _ _ U U U (Dt _ _ _ _ _ (by rw [hb6]; exact decide_eq_decide.2 om))))<|sG ?_
     cases b6
     ·have lb6:=dN hb6
      have fb6:¬ m / 2 ^ (255 - (192+k2x3))%2=1:=by
       have q:=GA (m%18446744073709551616) k2x3 om
       have q2:=Kf m k2x3 om
       rw [show 64*0+(63 - k2x3)=255 - (192+k2x3) by omega] at q2
       rw [← q2]
       exact λt=>lb6 (q.2 t)
      refine sU<|Sy.skip<|Sy.in_<|Sy.then_<|Sy.region<|sp U<|sS (uZ ((bt (k2x3+1):Nat):Int)) (Quiet.pure (AK .quo _ _ _ .u64 _ _ _ U U U (DJ _ _ _ _ _ dZ (by rw [← Eh]; have:=FN k2x3; rw [show ((bt k2x3:Nat):Int).tdiv 2=((bt k2x3 / 2:Nat):Int) from rfl]; exact wrap_u64 om om))))<|sp U<|Sy.nil ?_
      exact Sy.againK [true,true,true,true,true] (M:=[(g2,37,(pcs 0 0 false)),(g3,87,(fcs m)),(g4,87,(fcs u.val)),(g5,87,(fcs v.val)),(g6,111,(tcs j1.x.val j1.y.val j1.z.val))]) om ac7 kR (AW U (AW U (AW U (AW U (AW (beq (by rw [hj1, ← Hr fb6]; rfl)) U)))))
     ·have lb6:=dY hb6
      have fb6 :  m / 2 ^ (255 - (192+k2x3))%2=1:=by
       have q:=GA (m%18446744073709551616) k2x3 om
       have q2:=Kf m k2x3 om
       rw [show 64*0+(63 - k2x3)=255 - (192+k2x3) by omega] at q2
       rw [← q2]
       exact q.1 lb6
      refine sT<|Sy.region<|sS (tv j1.x.val j1.y.val j1.z.val) (qk 4 0 12 U U Dm)<|sS (fv u.val) (qk 2 0 4 U U AM)<|sS (fv v.val) (qk 3 0 4 U U AM) ?_
      obtain ⟨j2,hj2⟩:∃ z:J,z=Bz j1 u v:=⟨_,rfl⟩
      refine sS (tv j2.x.val j2.y.val j2.z.val) (qf (λw=>by rw [hj2]; exact Iy w j1 u v))<|sw 4 U (tcs j2.x.val j2.y.val j2.z.val) (wA U)<|Sy.nil<|Sy.in_<|Sy.then_<|Sy.region<|sp U<|sS (uZ ((bt (k2x3+1):Nat):Int)) (Quiet.pure (AK .quo _ _ _ .u64 _ _ _ U U U (DJ _ _ _ _ _ dZ (by rw [← Eh]; have:=FN k2x3; rw [show ((bt k2x3:Nat):Int).tdiv 2=((bt k2x3 / 2:Nat):Int) from rfl]; exact wrap_u64 om om))))<|sp U<|Sy.nil ?_
      exact Sy.againK [true,true,true,true,true] (M:=[(g2,37,(pcs 0 0 false)),(g3,87,(fcs m)),(g4,87,(fcs u.val)),(g5,87,(fcs v.val)),(g6,111,(tcs j2.x.val j2.y.val j2.z.val))]) om ac7 kR (AW U (AW U (AW U (AW U (AW (beq (by rw [hj2,hj1, ← F9 fb6]; rfl)) U)))))
   ·have lb3:=dY hb3
    refine sT<|Sy.skip<|Sy.then_<|Sy.seq<|Sy.block<|sC<|sS (tv ((A4 m u v (128+k2x2)).x.val) ((A4 m u v (128+k2x2)).y.val) ((A4 m u v (128+k2x2)).z.val)) (qk 4 0 12 U U Dm) ?_
    obtain ⟨j3,hj3⟩:∃ z:J,z=CX (A4 m u v (128+k2x2)):=⟨_,rfl⟩
    refine sS (tv j3.x.val j3.y.val j3.z.val) (qf (λw=>by rw [hj3]; exact Fh w (A4 m u v (128+k2x2))))<|sw 4 U (tcs j3.x.val j3.y.val j3.z.val) (wA U)<|sA<|sp U<|sP (pT g3 1)<|sS (qv (m / 18446744073709551616%18446744073709551616)) (qC 1 g3 1 87 24 (fcs m) rfl B2)<|sp U<|sS (uZ (((m / 18446744073709551616%18446744073709551616) &&& bt k2x2:Nat):Int)) (Quiet.pure (Hm _ _ _ _ _ (m / 18446744073709551616%18446744073709551616) (bt k2x2) (Nat.mod_lt _ dZ) (FN _) rfl U U)) ?_
    obtain ⟨b7,hb7⟩:=xE (decide ((m / 18446744073709551616%18446744073709551616) &&& bt k2x2≠0))
    refine sS (.bool b7) (Quiet.pure (AK .neq _ _ _ .u64 _ _ _ U U U (Dt _ _ _ _ _ (by rw [hb7]; exact decide_eq_decide.2 om))))<|sG ?_
    cases b7
    ·have lb7:=dN hb7
     have fb7:¬ m / 2 ^ (255 - (128+k2x2))%2=1:=by
      have q:=GA (m / 18446744073709551616%18446744073709551616) k2x2 om
      have q2:=Dz m 1 k2x2 om
      rw [show 64*1+(63 - k2x2)=255 - (128+k2x2) by omega] at q2
      rw [← q2]
      exact λt=>lb7 (q.2 t)
     refine sU<|Sy.skip<|Sy.in_<|Sy.then_<|Sy.region<|sp U<|sS (uZ ((bt (k2x2+1):Nat):Int)) (Quiet.pure (AK .quo _ _ _ .u64 _ _ _ U U U (DJ _ _ _ _ _ dZ (by rw [← Eh]; have:=FN k2x2; rw [show ((bt k2x2:Nat):Int).tdiv 2=((bt k2x2 / 2:Nat):Int) from rfl]; exact wrap_u64 om om))))<|sp U<|Sy.nil ?_
     exact Sy.againK [true,true,true,true,true] (M:=[(g2,37,(pcs 0 0 false)),(g3,87,(fcs m)),(g4,87,(fcs u.val)),(g5,87,(fcs v.val)),(g6,111,(tcs j3.x.val j3.y.val j3.z.val))]) om ac7 kR (AW U (AW U (AW U (AW U (AW (beq (by rw [hj3, ← Hr fb7]; rfl)) U)))))
    ·have lb7:=dY hb7
     have fb7 :  m / 2 ^ (255 - (128+k2x2))%2=1:=by
      have q:=GA (m / 18446744073709551616%18446744073709551616) k2x2 om
      have q2:=Dz m 1 k2x2 om
      rw [show 64*1+(63 - k2x2)=255 - (128+k2x2) by omega] at q2
      rw [← q2]
      exact q.1 lb7
     refine sT<|Sy.region<|sS (tv j3.x.val j3.y.val j3.z.val) (qL 4 g6 0 12 111 111 (tcs j3.x.val j3.y.val j3.z.val) rfl Dm)<|sS (fv u.val) (qL 2 g4 0 4 87 87 (fcs u.val) rfl AM)<|sS (fv v.val) (qL 3 g5 0 4 87 87 (fcs v.val) rfl AM) ?_
     obtain ⟨j4,hj4⟩:∃ z:J,z=Bz j3 u v:=⟨_,rfl⟩
     refine sS (tv j4.x.val j4.y.val j4.z.val) (qf (λw=>by rw [hj4]; exact Iy w j3 u v))<|sW 4 g6 111 (tcs j3.x.val j3.y.val j3.z.val) (tcs j4.x.val j4.y.val j4.z.val) (wS 0 111 (tcs j4.x.val j4.y.val j4.z.val) rfl)<|Sy.nil<|Sy.in_<|Sy.then_<|Sy.region<|sp U<|sS (uZ ((bt (k2x2+1):Nat):Int)) (Quiet.pure (AK .quo _ _ _ .u64 _ _ _ U U U (DJ _ _ _ _ _ dZ (by rw [← Eh]; have:=FN k2x2; rw [show ((bt k2x2:Nat):Int).tdiv 2=((bt k2x2 / 2:Nat):Int) from rfl]; exact wrap_u64 om om))))<|sp U<|Sy.nil ?_
     exact Sy.againK [true,true,true,true,true] (M:=[(g2,37,(pcs 0 0 false)),(g3,87,(fcs m)),(g4,87,(fcs u.val)),(g5,87,(fcs v.val)),(g6,111,(tcs j4.x.val j4.y.val j4.z.val))]) om ac7 kR (AW U (AW U (AW U (AW U (AW (beq (by rw [hj4,hj3, ← F9 fb7]; rfl)) U)))))
  ·have lb2:=dY hb2
   refine sT<|Sy.skip<|Sy.then_<|Sy.seq<|Sy.block<|sC<|sS (tv ((A4 m u v (64+k2x1)).x.val) ((A4 m u v (64+k2x1)).y.val) ((A4 m u v (64+k2x1)).z.val)) (qL 4 g6 0 12 111 111 (tcs ((A4 m u v (64+k2x1)).x.val) ((A4 m u v (64+k2x1)).y.val) ((A4 m u v (64+k2x1)).z.val)) U Dm) ?_
   obtain ⟨j5,hj5⟩:∃ z:J,z=CX (A4 m u v (64+k2x1)):=⟨_,rfl⟩
   refine sS (tv j5.x.val j5.y.val j5.z.val) (qf (λw=>by rw [hj5]; exact Fh w (A4 m u v (64+k2x1))))<|sW 4 g6 111 (tcs ((A4 m u v (64+k2x1)).x.val) ((A4 m u v (64+k2x1)).y.val) ((A4 m u v (64+k2x1)).z.val)) (tcs j5.x.val j5.y.val j5.z.val) (wS 0 111 (tcs j5.x.val j5.y.val j5.z.val) rfl)<|sA<|sp U<|sP (pT g3 2)<|sS (qv (m / 340282366920938463463374607431768211456%18446744073709551616)) (qC 1 g3 2 87 24 (fcs m) rfl B2)<|sp U<|sS (uZ (((m / 340282366920938463463374607431768211456%18446744073709551616) &&& bt k2x1:Nat):Int)) (Quiet.pure (Hm _ _ _ _ _ (m / 340282366920938463463374607431768211456%18446744073709551616) (bt k2x1) (Nat.mod_lt _ dZ) (FN _) rfl U U)) ?_
   obtain ⟨b8,hb8⟩:=xE (decide ((m / 340282366920938463463374607431768211456%18446744073709551616) &&& bt k2x1≠0))
   refine sS (.bool b8) (Quiet.pure (AK .neq _ _ _ .u64 _ _ _ U U U (Dt _ _ _ _ _ (by rw [hb8]; exact decide_eq_decide.2 om))))<|sG ?_
   cases b8
   ·have lb8:=dN hb8
    have fb8:¬ m / 2 ^ (255 - (64+k2x1))%2=1:=by
     have q:=GA (m / 340282366920938463463374607431768211456%18446744073709551616) k2x1 om
     have q2:=Dz m 2 k2x1 om
     rw [show 64*2+(63 - k2x1)=255 - (64+k2x1) by omega] at q2
     rw [← q2]
     exact λt=>lb8 (q.2 t)
    refine sU<|Sy.skip<|Sy.in_<|Sy.then_<|Sy.region<|sp U<|sS (uZ ((bt (k2x1+1):Nat):Int)) (Quiet.pure (AK .quo _ _ _ .u64 _ _ _ U U U (DJ _ _ _ _ _ dZ (by rw [← Eh]; have:=FN k2x1; rw [show ((bt k2x1:Nat):Int).tdiv 2=((bt k2x1 / 2:Nat):Int) from rfl]; exact wrap_u64 om om))))<|sp U<|Sy.nil ?_
    exact Sy.againK [true,true,true,true,true] (M:=[(g2,37,(pcs 0 0 false)),(g3,87,(fcs m)),(g4,87,(fcs u.val)),(g5,87,(fcs v.val)),(g6,111,(tcs j5.x.val j5.y.val j5.z.val))]) om ac7 kR (AW U (AW U (AW U (AW U (AW (beq (by rw [hj5, ← Hr fb8]; rfl)) U)))))
   ·have lb8:=dY hb8
    have fb8 :  m / 2 ^ (255 - (64+k2x1))%2=1:=by
     have q:=GA (m / 340282366920938463463374607431768211456%18446744073709551616) k2x1 om
     have q2:=Dz m 2 k2x1 om
     rw [show 64*2+(63 - k2x1)=255 - (64+k2x1) by omega] at q2
     rw [← q2]
     exact q.1 lb8
    refine sT<|Sy.region<|sS (tv j5.x.val j5.y.val j5.z.val) (qL 4 g6 0 12 111 111 (tcs j5.x.val j5.y.val j5.z.val) rfl Dm)<|sS (fv u.val) (qL 2 g4 0 4 87 87 (fcs u.val) rfl AM)<|sS (fv v.val) (qL 3 g5 0 4 87 87 (fcs v.val) rfl AM) ?_
    obtain ⟨j6,hj6⟩:∃ z:J,z=Bz j5 u v:=⟨_,rfl⟩
    refine sS (tv j6.x.val j6.y.val j6.z.val) (qf (λw=>by rw [hj6]; exact Iy w j5 u v))<|sW 4 g6 111 (tcs j5.x.val j5.y.val j5.z.val) (tcs j6.x.val j6.y.val j6.z.val) (wS 0 111 (tcs j6.x.val j6.y.val j6.z.val) rfl)<|Sy.nil<|Sy.in_<|Sy.then_<|Sy.region<|sp U<|sS (uZ ((bt (k2x1+1):Nat):Int)) (Quiet.pure (AK .quo _ _ _ .u64 _ _ _ U U U (DJ _ _ _ _ _ dZ (by rw [← Eh]; have:=FN k2x1; rw [show ((bt k2x1:Nat):Int).tdiv 2=((bt k2x1 / 2:Nat):Int) from rfl]; exact wrap_u64 om om))))<|sp U<|Sy.nil ?_
    exact Sy.againK [true,true,true,true,true] (M:=[(g2,37,(pcs 0 0 false)),(g3,87,(fcs m)),(g4,87,(fcs u.val)),(g5,87,(fcs v.val)),(g6,111,(tcs j6.x.val j6.y.val j6.z.val))]) om ac7 kR (AW U (AW U (AW U (AW U (AW (beq (by rw [hj6,hj5, ← F9 fb8]; rfl)) U)))))
 ·have lb1:=dY hb1
  refine sT<|Sy.skip<|Sy.then_<|Sy.seq<|Sy.block<|sC<|sS (tv ((A4 m u v (0+k2x0)).x.val) ((A4 m u v (0+k2x0)).y.val) ((A4 m u v (0+k2x0)).z.val)) (qL 4 g6 0 12 111 111 (tcs ((A4 m u v (0+k2x0)).x.val) ((A4 m u v (0+k2x0)).y.val) ((A4 m u v (0+k2x0)).z.val)) U Dm) ?_
  obtain ⟨j7,hj7⟩:∃ z:J,z=CX (A4 m u v (0+k2x0)):=⟨_,rfl⟩
  refine sS (tv j7.x.val j7.y.val j7.z.val) (qf (λw=>by rw [hj7]; exact Fh w (A4 m u v (0+k2x0))))<|sW 4 g6 111 (tcs ((A4 m u v (0+k2x0)).x.val) ((A4 m u v (0+k2x0)).y.val) ((A4 m u v (0+k2x0)).z.val)) (tcs j7.x.val j7.y.val j7.z.val) (wS 0 111 (tcs j7.x.val j7.y.val j7.z.val) rfl)<|sA<|sp U<|sP (pT g3 3)<|sS (qv (m / 6277101735386680763835789423207666416102355444464034512896%18446744073709551616)) (qC 1 g3 3 87 24 (fcs m) rfl B2)<|sp U<|sS (uZ (((m / 6277101735386680763835789423207666416102355444464034512896%18446744073709551616) &&& bt k2x0:Nat):Int)) (Quiet.pure (Hm _ _ _ _ _ (m / 6277101735386680763835789423207666416102355444464034512896%18446744073709551616) (bt k2x0) (Nat.mod_lt _ dZ) (FN _) rfl U U)) ?_
  obtain ⟨b9,hb9⟩:=xE (decide ((m / 6277101735386680763835789423207666416102355444464034512896%18446744073709551616) &&& bt k2x0≠0))
  refine sS (.bool b9) (Quiet.pure (AK .neq _ _ _ .u64 _ _ _ U U U (Dt _ _ _ _ _ (by rw [hb9]; exact decide_eq_decide.2 om))))<|sG ?_
  cases b9
  ·have lb9:=dN hb9
   have fb9:¬ m / 2 ^ (255 - (0+k2x0))%2=1:=by
    have q:=GA (m / 6277101735386680763835789423207666416102355444464034512896%18446744073709551616) k2x0 om
    have q2:=Dz m 3 k2x0 om
    rw [show 64*3+(63 - k2x0)=255 - (0+k2x0) by omega] at q2
    rw [← q2]
    exact λt=>lb9 (q.2 t)
   refine sU<|Sy.skip<|Sy.in_<|Sy.then_<|Sy.region<|sp U<|sS (uZ ((bt (k2x0+1):Nat):Int)) (Quiet.pure (AK .quo _ _ _ .u64 _ _ _ U U U (DJ _ _ _ _ _ dZ (by rw [← Eh]; have:=FN k2x0; rw [show ((bt k2x0:Nat):Int).tdiv 2=((bt k2x0 / 2:Nat):Int) from rfl]; exact wrap_u64 om om))))<|sp U<|Sy.nil ?_
   exact Sy.againK [true,true,true,true,true] (M:=[(g2,37,(pcs 0 0 false)),(g3,87,(fcs m)),(g4,87,(fcs u.val)),(g5,87,(fcs v.val)),(g6,111,(tcs j7.x.val j7.y.val j7.z.val))]) om ac7 kR (AW U (AW U (AW U (AW U (AW (beq (by rw [hj7, ← Hr fb9]; rfl)) U)))))
  ·have lb9:=dY hb9
   have fb9 :  m / 2 ^ (255 - (0+k2x0))%2=1:=by
    have q:=GA (m / 6277101735386680763835789423207666416102355444464034512896%18446744073709551616) k2x0 om
    have q2:=Dz m 3 k2x0 om
    rw [show 64*3+(63 - k2x0)=255 - (0+k2x0) by omega] at q2
    rw [← q2]
    exact q.1 lb9
   refine sT<|Sy.region<|sS (tv j7.x.val j7.y.val j7.z.val) (qL 4 g6 0 12 111 111 (tcs j7.x.val j7.y.val j7.z.val) rfl Dm)<|sS (fv u.val) (qL 2 g4 0 4 87 87 (fcs u.val) rfl AM)<|sS (fv v.val) (qL 3 g5 0 4 87 87 (fcs v.val) rfl AM) ?_
   obtain ⟨j8,hj8⟩:∃ z:J,z=Bz j7 u v:=⟨_,rfl⟩
   refine sS (tv j8.x.val j8.y.val j8.z.val) (qf (λw=>by rw [hj8]; exact Iy w j7 u v))<|sW 4 g6 111 (tcs j7.x.val j7.y.val j7.z.val) (tcs j8.x.val j8.y.val j8.z.val) (wS 0 111 (tcs j8.x.val j8.y.val j8.z.val) rfl)<|Sy.nil<|Sy.in_<|Sy.then_<|Sy.region<|sp U<|sS (uZ ((bt (k2x0+1):Nat):Int)) (Quiet.pure (AK .quo _ _ _ .u64 _ _ _ U U U (DJ _ _ _ _ _ dZ (by rw [← Eh]; have:=FN k2x0; rw [show ((bt k2x0:Nat):Int).tdiv 2=((bt k2x0 / 2:Nat):Int) from rfl]; exact wrap_u64 om om))))<|sp U<|Sy.nil ?_
   exact Sy.againK [true,true,true,true,true] (M:=[(g2,37,(pcs 0 0 false)),(g3,87,(fcs m)),(g4,87,(fcs u.val)),(g5,87,(fcs v.val)),(g6,111,(tcs j8.x.val j8.y.val j8.z.val))]) om ac7 kR (AW U (AW U (AW U (AW U (AW (beq (by rw [hj8,hj7, ← F9 fb9]; rfl)) U)))))
theorem Rp (w:World) (k x y:Nat) (i:Bool) (hk:k<K4) (hx:x<K4) (hy:y<K4):Calls Tryz.prog 29 #[fv k,pv x y i] w (Gets w (ptv (Ec.nm AR (k%Sc.pM) (dec x y i)))):=by
 have o1:=C8 x y i
 rcases h:dec x y i with _ | ⟨u,v⟩
 ·rw [Ec.nm_none]
  exact PE w k x y i hk hx hy h
 ·rw [h] at o1
  exact PD w k x y i hk hx hy u v h o1
structure Pr where
 x:Nat
 y:Nat
 i:Bool
def Pr.cells (t:Pr):List Value:=fws t.x++(fws t.y++[Value.bool t.i])
def Pr.ok (t:Pr):Prop:=t.x<K4∧t.y<K4
def Pr.pt (t:Pr):Pt:=dec t.x t.y t.i
def Pr.v (t:Pr):Value:=pv t.x t.y t.i
theorem Pr.on (t:Pr):Ec.On t.pt:=C8 t.x t.y t.i
def vaE (T:Nat→Pr) {N:Nat} (x:Fin N):Array Value:=#[(T x.val).v]
def CV (T:Nat→Pr) (l:List Nat):Pt:=Ec.sumL AR (λj=>(T j).pt) l
theorem VQ (T:Nat→Pr) (l:List Nat):Ec.On (CV T l):=Ec.On.sumL fld _ λx _=>(T x).on
theorem Q_ (T:Nat→Pr) (l:List Nat) (c:Nat):CV T (l++[c])=Ec.add AR (CV T l) (T c).pt:=Ko _ _ _
theorem XI (w:World) {S:Pt} (hS:Ec.On S) (t:Pr) (ht:t.ok) {R:Pt} (hR:R=Ec.add AR S t.pt):Calls Tryz.prog 91 #[pv (pX S) (pY S) (pI S),pv t.x t.y t.i] w (Gets w (pv (pX R) (pY R) (pI R))):=by
 have h:=JB w (pX S) (pY S) (pI S) t.x t.y t.i (B_ S) (B9 S) ht.1 ht.2
 rw [Ap hS] at h
 rw [hR, ← Ak (Ec.add AR S t.pt)]
 exact h
theorem Ok {w w':World} {g o n₀:Nat} {vs:List Value} (h:w.rangeAt g o vs) (hb:Below n₀ w w') (hg:g<n₀):w'.rangeAt g o vs:=λj v hj=>(Below.cell (p:=⟨g,o+j,none⟩) hb hg).trans (h j v hj)
theorem OY (n l Bs n₀ b off m cap:Nat) (T:Nat→Pr) (hc:m≤4611686018427387904) (hb:b<n₀) (J Jx:List (Fin m)→World→Prop) (W:World) (hnW:n₀≤W.heap.size) (hT:∀ j,j<m→W.rangeAt b (off+j*9) (T j).cells) (hJ:AbidesFrom W.heap.size J) (hJx:AbidesFrom W.heap.size Jx)
  (hY:∀ pre x W1,J pre W1→pre.length<m→YieldAt Fence.wide (n - 1) Tryz.prog l (vaE T x) W1 λe W'=>(e=.returned (.bool true)∧J (pre++[x]) W'∧KpL n₀ [] W1 W')∨(e=.returned (.bool false)∧Jx (pre++[x]) W'))
  (hS:Blk W Bs 54 #[.slice (some ⟨b,off,none⟩) m cap]) (h0:J [] W) :
  CallsIn Fence.wide n Tryz.prog 152 #[.func (.yield l) #[] #[],pT Bs 0] W λe W'=>(∃ v,e=.returned v)∧((∃ ys:List (Fin m),ys.map (·.1)=List.range m∧J ys W')∨(∃ pre:List (Fin m),(∃ k,k≤m∧pre.map (·.1)=List.range k)∧Jx pre W')):=by
 refine Sy.enterP (args:=[.func (.yield l) #[] #[],pT Bs 0]) Tryz.func152 U kL<|sC<|sS (.slice (some ⟨b,off,none⟩) m cap) (Quiet.thereOne Bs 0 54 _ _ U kR hS.lt _ (hS.cell 0) CE U)<|sP (iZ m)<|sp U<|sG<|Sy.block<|Sy.loopP m (λk1=>[(0,.func (.yield l) #[] #[]),(5,.slice (some ⟨b,off,none⟩) m cap),(6,iZ m),(7,iZ k1)]) (λk1 w=>∃ pre:List (Fin m),pre.map (·.1)=List.range k1∧J pre w∧Below n₀ W w) ac4 (λw hg=>⟨[],rfl,Ab hJ h0 hg,Below.mono hg hnW⟩) (λk1 wr hk1 hz=>?_)
 obtain ⟨pre,hpre,hj,hbw⟩:=hz
 have hlen:pre.length=k1:=by have:=congrArg List.length hpre; rwa [List.length_map,List.length_range] at this
 refine sC ?_
 obtain ⟨b1,hb1⟩:=xE (decide (k1<m))
 refine sS (.bool b1) (qls U U U hb1)<|sG<|Sy.seq ?_
 cases b1
 ·have lb1:=dN hb1
  refine sU<|Sy.exit<|Sy.then_exit<|Sy.then_exit ?_
  obtain rfl:m=k1:=om
  refine Sy.in_exit ?_
  exact Sy.retP U (λv w3 hg=>⟨⟨_,rfl⟩,.inl ⟨pre,hpre,Ab hJ hj hg⟩⟩) (.inr U)
 ·have lb1:=dY hb1
  refine sT<|Sy.skip<|Sy.then_<|Sy.seq<|Sy.block<|sC<|sS (.pointer (some ⟨b,off+k1*9,none⟩)) (Quiet.pure (CQ 54 _ _ _ b off m cap k1 9 .i64 U U U CE kF om))<|sS (pv ((T k1).x) ((T k1).y) ((T k1).i)) (Quiet.there b (off+k1*9) 9 37 (T k1).cells _ _ U kR (Nat.lt_of_lt_of_le hb (Nat.le_trans hnW hbw.size)) (Ok (hT k1 om) hbw hb) AX U kR U _ kR)<|sM 37 (pcs 0 0 false) (λg0=>?_)
  refine sw 0 U (pcs ((T k1).x) ((T k1).y) ((T k1).i)) (wA U)<|sG<|Sy.seq ?_
  have hx:k1<m:=om
  refine Sy.regionY 2 (by rintro ⟨_,_,⟨_,hv⟩,_⟩; cases hv) kR<|sp rfl<|sS (pv ((T k1).x) ((T k1).y) ((T k1).i)) (qk 0 0 9 rfl rfl AX)<|Sy.nil<|Sy.yieldX (ro:=none) rfl (by rintro ⟨_,_,⟨_,hv⟩,_⟩; cases hv) kR kR l #[pv ((T k1).x) ((T k1).y) ((T k1).i)] kF (λe W'=>(e=.returned (.bool true)∧J (pre++[⟨k1,hx⟩]) W'∧Below n₀ W W')∨(e=.returned (.bool false)∧Jx (pre++[⟨k1,hx⟩]) W')) (λw hg=>C4 (hY pre ⟨k1,hx⟩ w (Ab hJ hj hg) om) (λe w' q=>q.imp (λq=>⟨q.1,q.2.1,(hbw.trans (Below.mono hg (Nat.le_trans hnW hbw.size))).trans q.2.2.1⟩) id)) (λe w' q=>q.elim (λq=>⟨_,q.1⟩) (λq=>⟨_,q.1⟩)) rfl (λw2 b hr=>?_)
  cases b
  ·have hx2:=hr.elim (λq=>by cases q.1) (λq=>q.2)
   refine sP (.bool true)<|sG<|sT<|Sy.ret<|Sy.in_ret<|Sy.then_ret<|Sy.then_ret<|Sy.in_ret ?_
   exact Sy.retP U (λv w3 hg=>⟨⟨_,rfl⟩,.inr ⟨pre++[⟨k1,hx⟩],⟨k1+1,by omega,by rw [List.map_append,hpre,List.range_succ]; rfl⟩,Ab hJx hx2 hg⟩⟩) (.inl U)
  ·clear hbw hj
   obtain ⟨hj,hbw⟩:=hr.elim (λq=>q.2) (λq=>by cases q.1)
   refine sP (.bool false)<|sG<|sU<|Sy.skip<|Sy.in_<|Sy.then_<|Sy.region<|sS (iZ (k1+1)) (qad U U U)<|sp U<|Sy.nil ?_
   exact Sy.againP om ac4 (λw3 hg=>⟨pre++[⟨k1,hx⟩],by rw [List.map_append,hpre,List.range_succ]; rfl,Ab hJ hj hg,hbw.trans (Below.mono hg (Nat.le_trans hnW hbw.size))⟩)
theorem OZ (n l Bs cap:Nat) (A:Option Addr) (J Jx:List (Fin 0)→World→Prop) (W:World) (hJ:AbidesFrom W.heap.size J)
  (hS:Blk W Bs 54 #[.slice A 0 cap]) (h0:J [] W) :
  CallsIn Fence.wide n Tryz.prog 152 #[.func (.yield l) #[] #[],pT Bs 0] W λe W'=>(∃ v,e=.returned v)∧((∃ ys:List (Fin 0),ys.map (·.1)=List.range 0∧J ys W')∨(∃ pre:List (Fin 0),(∃ k,k≤0∧pre.map (·.1)=List.range k)∧Jx pre W')):=by
 refine Sy.enterP (args:=[.func (.yield l) #[] #[],pT Bs 0]) Tryz.func152 U kL<|sC<|sS (.slice A 0 cap) (Quiet.thereOne Bs 0 54 _ _ U kR hS.lt _ (hS.cell 0) CE U)<|sP (iZ 0)<|sp U<|sG<|Sy.block<|Sy.loopP 0 (λk1=>[(0,.func (.yield l) #[] #[]),(5,.slice A 0 cap),(6,iZ 0),(7,iZ 0)]) (λk1 w=>J [] w) ac4 (λw hg=>Ab hJ h0 hg) (λk1 wr hk1 hz=>?_)
 have hj:=hz
 refine sC ?_
 obtain ⟨b1,hb1⟩:=xE (decide (0<0))
 refine sS (.bool b1) (qls U U U hb1)<|sG<|Sy.seq ?_
 cases b1
 ·have lb1:=dN hb1
  refine sU<|Sy.exit<|Sy.then_exit<|Sy.then_exit ?_
  obtain rfl:k1=0:=om
  refine Sy.in_exit ?_
  exact Sy.retP U (λv w3 hg=>⟨⟨_,rfl⟩,.inl ⟨[],rfl,Ab hJ hj hg⟩⟩) (.inr U)
 ·have lb1:=dY hb1
  refine sT<|Sy.skip<|Sy.then_<|Sy.seq ?_
  exact absurd lb1 om
def aP (w:World) (A:Option Addr) (m:Nat) (T:Nat→Pr):Prop:=0<m→∃ b off,A=some ⟨b,off,none⟩∧b<w.heap.size∧∀ j,j<m→w.rangeAt b (off+j*9) (T j).cells
theorem Le (n Bs m cap:Nat) (A:Option Addr) (T:Nat→Pr) (hc:m≤4611686018427387904) (w0 w:World) (hb:Below w0.heap.size w0 w) (hsrc:aP w0 A m T) (hS:Blk w Bs 54 #[.slice A m cap]) :
  SeqStopsK Fence.wide n Tryz.prog 152 #[pT Bs 0] (vaE T (N:=m)) (KpL w0.heap.size []) (λys=>ys.map (·.1)=List.range m) (λpre=>∃ k,k≤m∧pre.map (·.1)=List.range k) m w:=λl J Jx W hW hJ hJx hY h0=>by
 have hS':=hS.below hW hS.lt
 rcases Nat.eq_zero_or_pos m with h | h
 ·subst h
  exact OZ n l Bs cap A J Jx W hJ hS' h0
 ·obtain ⟨b,off,rfl,hbl,hT⟩:=hsrc h
  exact OY n l Bs w0.heap.size b off m cap T hc hbl J Jx W (Nat.le_trans hb.size hW.size) (λj hj=>Ok (Ok (hT j hj) hb hbl) hW (Nat.lt_of_lt_of_le hbl hb.size)) hJ hJx hY hS' h0
theorem Iu (w:World) (Bs m cap:Nat) (A:Option Addr) (T:Nat→Pr) (hc:m≤4611686018427387904) (hok:∀ j,(T j).ok) (hsrc:aP w A m T) (hS:Blk w Bs 54 #[.slice A m cap]):AY 93 #[.func (.func 152) #[] #[pT Bs 0]] w (Gets w (ptv (CV T (List.range m)))):=by
 refine Sy.enterM (args:=[.func (.func 152) #[] #[pT Bs 0]]) Tryz.func93 U kL<|sC<|sM 37 (pcs 0 0 false) (λg0=>?_)
 refine sA<|sS (pv (pX (CV T [])) (pY (CV T [])) (pI (CV T []))) (qf CC)<|sM 37 (pcs 0 0 false) (λg1=>?_)
 refine sw 1 U (pcs (pX (CV T [])) (pY (CV T [])) (pI (CV T []))) (wA U)<|sG<|Sy.seq<|sC<|sp U<|sG<|Sy.block<|Sy.rangeF (α:=Fin m) 152 #[pT Bs 0] kR kR (enters_of Tryz.func152 kR U) (vaE T) [] (λys=>ys.map (·.1)=List.range m) (λpre=>∃ k,k≤m∧pre.map (·.1)=List.range k) m (λ_=>rfl) dZ [g0,g1] (λ_=>True) trivial (λpre=>[(g0,37,(pcs 0 0 false)),(g1,37,(pcs (pX (CV T (pre.map (·.1)))) (pY (CV T (pre.map (·.1)))) (pI (CV T (pre.map (·.1))))))]) (λpre=>[(g0,37,(pcs 0 0 false)),(g1,37,(pcs (pX (CV T (pre.map (·.1)))) (pY (CV T (pre.map (·.1)))) (pI (CV T (pre.map (·.1))))))]) (λ_=>False) [true,true] kR (λ_=>rfl) ?_ ?_ 1 (λx gs=>[(3,pT g1 0),(4,.pointer (some ⟨(gs.getD 0 0),0,none⟩))]) (λx gs=>[(gs.getD 0 0,37,(pcs ((T x.val).x) ((T x.val).y) ((T x.val).i)))]) (λx gs h=>by match gs,h with | [_],_=>rfl) ?_ ?_ ?_ ?_
 ·intro w hw
  exact ⟨w,Below.refl _ _,Le 8 Bs m cap A T hc _ w hw.below hsrc (hS.below hw.below hS.lt)⟩
 ·intro p hp pre
  cases hp
 ·intro l fz pre x
  refine Sy.regionR (by rintro ⟨_,_,h⟩; exact h) kR ⟨_,rfl⟩<|sM 37 (pcs 0 0 false) (λg2=>?_)
  refine sw 2 U (pcs ((T x.val).x) ((T x.val).y) ((T x.val).i)) (wA U)<|Sy.nil ?_
  exact Sy.apN [g2] rfl ac2 [true,true,true] kR
 ·intro l fz pre x gs hgs hlen hH
  obtain ⟨y0,rfl⟩:∃ y,gs=[y]:=by match gs,hgs with | [y],_=>exact ⟨y,rfl⟩
  refine Sy.block<|Sy.regionR (by rintro ⟨_,_,h⟩; exact h) kR ⟨_,rfl⟩<|sS (pv (pX (CV T (pre.map (·.1)))) (pY (CV T (pre.map (·.1)))) (pI (CV T (pre.map (·.1))))) (qk 1 0 9 rfl rfl AX)<|sS (pv ((T x.val).x) ((T x.val).y) ((T x.val).i)) (qk 2 0 9 rfl rfl AX) ?_
  obtain ⟨R1,hR1⟩:∃ z:Pt,z=Ec.add AR (CV T (pre.map (·.1))) (T x.val).pt:=⟨_,rfl⟩
  refine sS (pv (pX R1) (pY R1) (pI R1)) (qf (λw=>by have q:=XI w (VQ T (pre.map (·.1))) (T x.val) (hok _) hR1; exact q))<|sw 1 U (pcs (pX R1) (pY R1) (pI R1)) (wA U)<|Sy.nil<|Sy.in_ ?_
  exact Sy.bpN [true,true,false] (M:=[(g0,37,(pcs 0 0 false)),(g1,37,(pcs (pX R1) (pY R1) (pI R1)))]) kR (AW U (AW (beq (by rw [List.map_append,List.map_singleton,Q_, ← hR1])) U)) trivial
 ·intro D fz xs hS hH hD hm
  have hS0:xs.map (·.1)=List.range m:=hS
  rw [hS0]
  refine Sy.in_<|sB<|sS (pv (pX (CV T (List.range m))) (pY (CV T (List.range m))) (pI (CV T (List.range m)))) (qk 1 0 9 U U AX)<|sw 0 U (pcs (pX (CV T (List.range m))) (pY (CV T (List.range m))) (pI (CV T (List.range m)))) (wA U)<|sG<|Sy.ret ?_
  rw [show (ptv (CV T (List.range m)):Value)=pv (pX (CV T (List.range m))) (pY (CV T (List.range m))) (pI (CV T (List.range m))) from Ak _]
  exact Sy.retM1 (v:=pv (pX (CV T (List.range m))) (pY (CV T (List.range m))) (pI (CV T (List.range m)))) U (.inl (Res.cell (ty':=37) g0 0 (pcs (pX (CV T (List.range m))) (pY (CV T (List.range m))) (pI (CV T (List.range m)))) _ kR kR AX U kR kR)) hD hm
 ·intro D fz pre hS hx hD hm
  exact hx.elim
end Cu
end
section
namespace Cu
open Go.ChangeShapes Go.WideShapes Go.ChangeAt Go.RowKit Go.Deep
instance:Inhabited Pr:=⟨⟨0,0,false⟩⟩
theorem ZN:0<K4:=dZ
theorem Xy {α:Type} {cs:List α} {a b:Nat} (h:cs.length=a+b):cs=(cs.drop 0).take a++(cs.drop a).take b:=by
 rw [List.drop_zero,List.take_of_length_le (l:=cs.drop a) (by rw [List.length_drop]; omega),List.take_append_drop]
theorem Xx {α:Type} {cs:List α} {a b c:Nat} (h:cs.length=a+(b+c)):cs=(cs.drop 0).take a++((cs.drop a).take b++(cs.drop (a+b)).take c):=by
 have h2:=Xy (cs:=cs.drop a) (a:=b) (b:=c) (by rw [List.length_drop]; omega)
 rw [List.drop_zero,List.drop_drop] at h2
 rw [← h2,List.drop_zero,List.take_append_drop]
theorem Xw {α:Type} {cs:List α} {a b c d:Nat} (h:cs.length=a+(b+(c+d))):cs=(cs.drop 0).take a++((cs.drop a).take b++((cs.drop (a+b)).take c++(cs.drop (a+b+c)).take d)):=by
 have h2:=Xx (cs:=cs.drop a) (a:=b) (b:=c) (c:=d) (by rw [List.length_drop]; omega)
 rw [List.drop_zero,List.drop_drop,List.drop_drop, ← Nat.add_assoc] at h2
 rw [← h2,List.drop_zero,List.take_append_drop]
def tgl (b:Bool) (id:AF) (x y:Nat) (i:Bool):List Value:=.bool b::(id.map bv++(fws x++(fws y++[.bool i])))
def aml (b:Bool) (v:Nat) (x y:Nat) (i:Bool):List Value:=.bool b::.int .u64 v::(fws x++(fws y++[.bool i]))
def opl (id:AF) (v k l:Nat):List Value:=id.map bv++(.int .u64 v::(fws k++fws l))
def tgv (b:Bool) (id:AF) (x y:Nat) (i:Bool):Value:=.agg (tgl b id x y i).toArray
def amv (b:Bool) (v:Nat) (x y:Nat) (i:Bool):Value:=.agg (aml b v x y i).toArray
def opv (id:AF) (v k l:Nat):Value:=.agg (opl id v k l).toArray
def ZU (b:Bool) (id:AF) (x y:Nat) (i:Bool):Array Value:=(tgl b id x y i).toArray
def aL (b:Bool) (v:Nat) (x y:Nat) (i:Bool):Array Value:=(aml b v x y i).toArray
def Io (id:AF) (v k l:Nat):Array Value:=(opl id v k l).toArray
theorem V7 {H:Type} {enc:TypeId×Value→H} {P:Program} {W:World} {fuel:Nat} {t:TypeId} {cs:List Value} {x:DataW H×List MemPlace} (ht:P.underlying t=some (.int .u64)) (hf:DataW.trod enc P W 0 (λ_=>true) true fuel t cs=some x):∃ v:Nat,v<18446744073709551616∧cs=[.int .u64 v]:=by
 obtain ⟨z,e,_,w⟩:=DataW.trod_int ht hf
 obtain ⟨m,rfl,hm⟩:=JK w
 exact ⟨m,hm,e⟩
theorem J9 {H:Type} {enc:TypeId×Value→H} {P:Program} {W:World} {fuel:Nat} {t q:TypeId} {cs:List Value} {x:DataW H×List MemPlace} (hl:cs.length=4) (ht:P.underlying t=some (.array 4 q)) (hq:P.underlying q=some (.int .u64)) (hcq:P.cellsOf q=1) (hf:DataW.trod enc P W 0 (λ_=>true) true fuel t cs=some x):∃ n:Nat,n<K4∧cs=fws n:=by
 match cs,hl with
 | [a,b,c,d],_=>exact OS ht hq hcq hf
theorem open_opening {H:Type} {enc:TypeId×Value→H} {W:World} {r:Reach} {b0:Nat} {v:Value} {d:DataW H} {ps:List MemPlace}
  (hval:Value.okWide Tryz.prog W r b0 28 v) (h:DataW.Trod enc Tryz.prog W 0 (λ_=>true) true 28 v d ps):∃ (id:AF) (u k l:Nat),id.length=32∧u<18446744073709551616∧k<K4∧l<K4∧v=opv id u k l:=by
 have ht:=VG
 obtain ⟨⟨cs⟩,rfl,hsz⟩:=okWide_struct ht hval
 rw [show Tryz.prog.cellsOf 28=41 by kernel_rfl] at hsz
 have hl:cs.length=32+(1+(4+4)):=by simpa using hsz
 obtain ⟨fuel,hf⟩:=h
 obtain ⟨y0,y1,y2,y3,n,_,_,g0,g1,g2,g3⟩:=Joins.trod_struct4 ht (by simpa [Value.cells] using hf)
 have s:=Xw hl
 have l2:((cs.drop (32+1)).take 4).length=4:=by rw [List.length_take,List.length_drop]; omega
 have l3:((cs.drop (32+1+4)).take 4).length=4:=by rw [List.length_take,List.length_drop]; omega
 obtain ⟨id,hid,e0⟩:=open_bytes (P:=Tryz.prog) Dc uy5 kZ kZ g0
 obtain ⟨u,hu,e1⟩:=V7 (P:=Tryz.prog) B2 g1
 obtain ⟨k,hk,e2⟩:=J9 l2 (P:=Tryz.prog) Au B2 kZ g2
 obtain ⟨l,hl',e3⟩:=J9 l3 (P:=Tryz.prog) Au B2 kZ g3
 refine ⟨id,u,k,l,hid,hu,hk,hl',?_⟩
 rw [s]
 unfold opv opl
 have q0:(cs.drop 0).take 32=id.map bv:=e0
 have q1:(cs.drop 32).take 1=[.int .u64 u]:=e1
 have q2:(cs.drop (32+1)).take 4=fws k:=e2
 have q3:(cs.drop (32+1+4)).take 4=fws l:=e3
 rw [q0,q1,q2,q3]
 rfl
end Cu
end
section
namespace Cu
open Go.RowKit Sy
def Ay:Pt→List UInt8
 | none=>List.replicate 33 0
 | some (x,y)=>(if y.val%2=1 then 3 else 2)::BA x.val
theorem Ai:∀ P,(Ay P).length=33
 | none=>rfl
 | some (x,y)=>by simp [Ay,BT]
def Dp (b:AF):Pt:=if b.head? = some 3 then Ec.neg (Ah b.tail) else Ah b.tail
def Ck (b:AF):Bool:=decide (b.length=33∧Ay (Dp b)=b)
def F6 (b:AF):Pt:=if Ck b then Dp b else none
theorem Fy (l:AF):Ec.On (Ah l):=by
 cases h:A7 l
 ·rw [GM h]; trivial
 ·obtain ⟨u,y,_,_,e,ho,_⟩:=Fx h
  rw [e]; exact ho
theorem Uq (b:AF):Ec.On (Dp b):=by
 unfold Dp
 split
 ·exact Ec.On.neg (Fy _)
 ·exact Fy _
theorem Wr (b:AF):Ec.On (F6 b):=by
 unfold F6
 split
 ·exact Uq b
 ·trivial
theorem Qk {b:AF} (h:Ck b=true):F6 b=Dp b∧Ay (F6 b)=b∧b.length=33:=by
 have e:F6 b=Dp b:=by unfold F6; rw [if_pos h]
 unfold Ck at h
 have h:=of_decide_eq_true h
 exact ⟨e,by rw [e]; exact h.2,h.1⟩
theorem MN {b:AF} (h:Ck b=false):F6 b=none:=by unfold F6; rw [if_neg (by simp [h])]
theorem V8:Ah (List.replicate 32 0)=none:=GM (by decide +kernel)
theorem SY (y:Fp) (h:y≠0):(-y).val%2≠y.val%2:=by
 have hs:y + -y=0:=by grobner
 have h1:=Ec.val_of_sum hs h
 have h2:pM%2=1:=by decide +kernel
 omega
theorem Yk (x y:Fp) (h:y*y=x*x*x+7):Ah (BA x.val)=if y.val%2=1 then some (x, -y) else some (x,y):=by
 have hv:A2 (BA x.val)=x.val:=IX _ (lt4 x)
 have hc:Ee x.val=mulP y.val y.val:=by
  rw [Ev, ← h]
  rfl
 obtain ⟨s,hs,hsn⟩:=VY y.val
 have hb:A7 (BA x.val)=true:=by
  unfold A7
  rw [hv,hc,hs]
  simp [x.isLt]
 obtain ⟨u,r,e1,e2,e3,e4,e5⟩:=Fx hb
 rw [hv] at e1
 have eu:u=x:=Fin.ext e1
 subst eu
 rw [hv,hc,hs] at e2
 have e2:r.val=s:=e2
 rw [e3]
 have hy:=L8 u y h
 rcases hsn with q | q
 ·have er:r=y:=Fin.ext (by rw [e2,q,Nat.mod_eq_of_lt y.isLt])
  subst er
  rw [if_neg om]
 ·have er:r = -y:=Fin.ext (by rw [e2,q,P1])
  subst er
  have:=SY y hy
  rw [if_pos om]
theorem Uo {P:Pt} (h:Ec.On P):Dp (Ay P)=P:=by
 rcases P with _ | ⟨x,y⟩
 ·have e:Ay none=0::List.replicate 32 0:=rfl
  have hne:¬ ((0:UInt8)::List.replicate 32 0).head? = some 3:=dZ
  unfold Dp
  rw [e,if_neg hne]
  exact V8
 ·have hl:=Yk x y h
  have e:Ay (some (x,y))=(if y.val%2=1 then 3 else 2)::BA x.val:=rfl
  unfold Dp
  rw [e]
  by_cases ho:y.val%2=1
  ·rw [if_pos ho] at hl ⊢
   simp only [List.head?_cons,if_true,List.tail_cons,hl]
   show some (x, - -y)=_
   rw [Ec.neg_neg']
  ·rw [if_neg ho] at hl ⊢
   simp only [List.head?_cons,List.tail_cons,hl]
   rw [if_neg dZ]
theorem Qj {P:Pt} (h:Ec.On P):Ck (Ay P)=true∧F6 (Ay P)=P:=by
 have hc:=Uo h
 have ho:Ck (Ay P)=true:=by
  unfold Ck
  rw [hc]
  exact decide_eq_true ⟨Ai P,rfl⟩
 exact ⟨ho,by unfold F6; rw [if_pos ho,hc]⟩
theorem PH (m:AF) (h:m.length=32):∃ a0 a1 a2 a3 a4 a5 a6 a7 a8 a9 a10 a11 a12 a13 a14 a15 a16 a17 a18 a19 a20 a21 a22 a23 a24 a25 a26 a27 a28 a29 a30 a31:UInt8,m=[a0,a1,a2,a3,a4,a5,a6,a7,a8,a9,a10,a11,a12,a13,a14,a15,a16,a17,a18,a19,a20,a21,a22,a23,a24,a25,a26,a27,a28,a29,a30,a31]:=by
 match m,h with
 | [a0,a1,a2,a3,a4,a5,a6,a7,a8,a9,a10,a11,a12,a13,a14,a15,a16,a17,a18,a19,a20,a21,a22,a23,a24,a25,a26,a27,a28,a29,a30,a31],_=>exact ⟨a0,a1,a2,a3,a4,a5,a6,a7,a8,a9,a10,a11,a12,a13,a14,a15,a16,a17,a18,a19,a20,a21,a22,a23,a24,a25,a26,a27,a28,a29,a30,a31,  rfl⟩
theorem Yj (m:AF) (h:m.length=33):∃ o0 o1 o2 o3 o4 o5 o6 o7 o8 o9 o10 o11 o12 o13 o14 o15 o16 o17 o18 o19 o20 o21 o22 o23 o24 o25 o26 o27 o28 o29 o30 o31 o32:UInt8,m=(o0::o1::o2::[o3,o4,o5,o6,o7,o8,o9,o10,o11,o12,o13,o14,o15,o16,o17,o18,o19,o20,o21,o22,o23,o24,o25,o26,o27,o28,o29,o30,o31,o32]):=by
 obtain ⟨b,t,rfl⟩:∃ b t,m=b::t:=by cases m with
  | nil=>cases h
  | cons b t=>exact ⟨b,t,rfl⟩
 obtain ⟨a0,a1,a2,a3,a4,a5,a6,a7,a8,a9,a10,a11,a12,a13,a14,a15,a16,a17,a18,a19,a20,a21,a22,a23,a24,a25,a26,a27,a28,a29,a30,a31,e⟩:=PH t (by simpa using h)
 exact ⟨b,a0,a1,a2,a3,a4,a5,a6,a7,a8,a9,a10,a11,a12,a13,a14,a15,a16,a17,a18,a19,a20,a21,a22,a23,a24,a25,a26,a27,a28,a29,a30,a31,by rw [e]⟩
theorem Ys (w:World) (F:AO) (o:Oper) (x y:Operand) (a:UInt8) (k:Nat) (hk:k<256) {yt:TypeId} (ho:o.op=.binOp .eql 5 x y yt) (hx:evF F x=bv a) (hy:evF F y=.int .u8 k):(execOp (evF F) o).run Tryz.prog w=.ok (.value (.bool (decide (a=UInt8.ofNat k)))) w:=by
 have h1:=uy5
 have e:((a.toNat:Int) == (k:Int))=decide (a=UInt8.ofNat k):=by
  rw [Bool.eq_iff_iff]
  simp
  constructor
  ·intro h
   have:a.toNat=k:=om
   exact UInt8.toNat_inj.1 (by rw [this,UInt8.toNat_ofNat']; omega)
  ·rintro rfl
   rw [UInt8.toNat_ofNat']
   omega
 unfold execOp
 simp only [ho,hx,hy,bv]
 simp [eqGuard,binOp,Op.intCmp,e]
theorem Up (t:AF):Dp (3::t)=Ec.neg (Ah t):=rfl
theorem Qr (b:UInt8) (t:AF) (h:b≠3):Dp (b::t)=Ah t:=by
 have:¬ (b::t).head? = some 3:=by simpa using h
 unfold Dp
 rw [if_neg this]
 rfl
theorem Tm (w:World) (F:AO) (o:Oper) (x y:Operand) (a b:AF) (ha:a.length=33) (hb:b.length=33) {yt:TypeId} (ho:o.op=.binOp .neq 166 x y yt) (hx:evF F x=.agg (a.map bv).toArray) (hy:evF F y=.agg (b.map bv).toArray):(execOp (evF F) o).run Tryz.prog w=.ok (.value (.bool (decide (a≠b)))) w:=by
 have h1:(eqGuard .neq 166 x y (.agg (a.map bv).toArray) (.agg (b.map bv).toArray)).run Tryz.prog w=.ok () w:=by go_simp
 have h2:(binOp .neq 166 (.agg (a.map bv).toArray) (.agg (b.map bv).toArray)).run Tryz.prog w=.ok (.bool (decide (a≠b))) w:=by
  have h:=run_equalIn_bytes (P:=Tryz.prog) w 9998 166 5 33 Fg uy5 (λW=>kZ) a b ha hb
  rw [run_neq_struct,show (10000:Nat)=9998+2 from rfl,show (Op.equalIn (9998+2) 166 (.agg (a.map bv).toArray) (.agg (b.map bv).toArray)).run Tryz.prog w=_ from h]
  by_cases e:a=b <;> simp [e]
 unfold execOp
 simp only [ho,hx,hy,Sem.run_bind,h1,h2,Result.andThen_ok,Sem.run_pure]
theorem WD (w:World) (F:AO) (o:Oper) (x y:Operand) (n:Nat) (hn:n≠33) {yt:TypeId} (ho:o.op=.binOp .neq 3 x y yt) (hx:evF F x=.int .i64 n) (hy:evF F y=.int .i64 33):(execOp (evF F) o).run Tryz.prog w=.ok (.value (.bool true)) w:=by
 unfold execOp
 simp only [ho,hx,hy]
 simp [eqGuard,binOp,Op.intCmp]
 omega
theorem UO (w:World) (x y:Nat) (i:Bool) (hx:x<K4) (hy:y<K4) (h:dec x y i=none):AY 118 #[pv x y i] w (Gets w (.agg ((Ay none).map bv).toArray)):=by
 refine Sy.enter (args:=[pv x y i]) Tryz.func118 U kL<|sC<|sM 37 (pcs x y i) (λg0=>?_)
 refine Sy.make kR 166 (Zl 33).toArray ptr kF (λg1=>?_)
 refine sA<|Sy.make kR 166 (Zl 33).toArray ptr kF (λg2=>?_)
 refine sA<|sS (pv x y i) (qk 0 0 9 U U AX)<|sS (pv 0 0 true) (qf (λw=>by have hrr:=Cq w x y i lK lK; rw [h] at hrr; exact hrr))<|sw 0 U (pcs 0 0 true) (wA U)<|sG<|Sy.seq<|Sy.seq<|Sy.regionD (λj=>false) kR<|sD 0 U (pv 0 0 true) (qk 0 0 9 U U AX)<|sD 1 U (pv 0 0 true) (qf CC)<|sD 2 U (.bool true) (Quiet.pure (λw=>C7 w _ _ _ _ 0 0 true 0 0 true U U U dZ dZ dZ dZ))<|sI<|sT<|sC<|sS (.agg ((Zl 33):List Value).toArray) (qx 2 0 33 U U Fg kR kL)<|Sy.write kR 1 g1 166 (Zl 33).toArray (Zl 33).toArray kR (Writes.store 0 166 (Zl 33).toArray _ _ U kR kR kR kL kR kR)<|sG<|Sy.ret<|Sy.then_ret ?_
 rw [show (.agg ((Ay none).map bv).toArray:Value)=.agg ((Zl 33):List Value).toArray from by kernel_rfl]
 exact Sy.ret1 (v:=.agg ((Zl 33):List Value).toArray) rfl (.inl (Res.cell (ty':=166) g1 1 (Zl 33).toArray _ kR kR Fg U kR kR))
theorem UN (w:World) (x y:Nat) (i:Bool) (hx:x<K4) (hy:y<K4) (u v:Fp) (h:dec x y i=some (u,v)):AY 118 #[pv x y i] w (Gets w (.agg ((Ay (some (u,v))).map bv).toArray)):=by
 obtain ⟨a0,a1,a2,a3,a4,a5,a6,a7,a8,a9,a10,a11,a12,a13,a14,a15,a16,a17,a18,a19,a20,a21,a22,a23,a24,a25,a26,a27,a28,a29,a30,a31,hm⟩:=PH (BA u.val) (BT _)
 have cB:∀ w,AY 184 #[fv u.val] w (Gets w (.agg ((bv a0::bv a1::[bv a2,bv a3,bv a4,bv a5,bv a6,bv a7,bv a8,bv a9,bv a10,bv a11,bv a12,bv a13,bv a14,bv a15,bv a16,bv a17,bv a18,bv a19,bv a20,bv a21,bv a22,bv a23,bv a24,bv a25,bv a26,bv a27,bv a28,bv a29,bv a30,bv a31]):List Value).toArray)):=λw=>by
  have hh:=bytes_any w u.val (lt4 u)
  rw [Nat.mod_eq_of_lt u.isLt,hm] at hh
  exact hh
 refine Sy.enter (args:=[pv x y i]) Tryz.func118 U kL<|sC<|sM 37 (pcs x y i) (λg0=>?_)
 refine Sy.make kR 166 (Zl 33).toArray ptr kF (λg1=>?_)
 refine sA<|Sy.make kR 166 (Zl 33).toArray ptr kF (λg2=>?_)
 refine sA<|sS (pv x y i) (qk 0 0 9 U U AX)<|sS (pv u.val v.val false) (qf (λw=>by have hrr:=Cq w x y i lK lK; rw [h] at hrr; exact hrr))<|sw 0 U (pcs u.val v.val false) (wA U)<|sG<|Sy.seq<|Sy.seq<|Sy.regionD (λj=>false) kR<|sD 0 U (pv u.val v.val false) (qk 0 0 9 U U AX)<|sD 1 U (pv 0 0 true) (qf CC)<|sD 2 U (.bool false) (Quiet.pure (λw=>Eu w _ _ _ _ _ _ _ _ _ _ U U U lK lK lK lK dZ))<|sI<|sU<|Sy.skip<|sB<|sP (pT g2 0)<|Sy.write kR 2 g2 166 (Zl 33).toArray (.int .u8 2::Zl 32).toArray kR (wO 0 5 (.int .u8 2) rfl)<|sG<|Sy.seq<|sC<|sP (pT g0 4)<|sS (fv v.val) (qk 0 4 4 U U AN) ?_
 obtain ⟨b1,hb1⟩:=xE (decide (v.val%pM%2=1))
 refine sS (.bool b1) (qf (λw=>by rw [hb1]; exact QS w v.val lK))<|sG ?_
 cases b1
 ·refine sU<|Sy.skip<|sB ?_
  refine sP (pT g0 0)<|sS (fv u.val) (qk 0 0 4 U U AN)<|sS (.agg ((bv a0::bv a1::[bv a2,bv a3,bv a4,bv a5,bv a6,bv a7,bv a8,bv a9,bv a10,bv a11,bv a12,bv a13,bv a14,bv a15,bv a16,bv a17,bv a18,bv a19,bv a20,bv a21,bv a22,bv a23,bv a24,bv a25,bv a26,bv a27,bv a28,bv a29,bv a30,bv a31]):List Value).toArray) (qf cB)<|Sy.make kR 22 (Zl 32).toArray ptr kF (λg3=>?_)
  refine Sy.write kR 3 g3 22 (Zl 32).toArray (bv a0::bv a1::[bv a2,bv a3,bv a4,bv a5,bv a6,bv a7,bv a8,bv a9,bv a10,bv a11,bv a12,bv a13,bv a14,bv a15,bv a16,bv a17,bv a18,bv a19,bv a20,bv a21,bv a22,bv a23,bv a24,bv a25,bv a26,bv a27,bv a28,bv a29,bv a30,bv a31]).toArray kR (Writes.store 0 22 (bv a0::bv a1::[bv a2,bv a3,bv a4,bv a5,bv a6,bv a7,bv a8,bv a9,bv a10,bv a11,bv a12,bv a13,bv a14,bv a15,bv a16,bv a17,bv a18,bv a19,bv a20,bv a21,bv a22,bv a23,bv a24,bv a25,bv a26,bv a27,bv a28,bv a29,bv a30,bv a31]).toArray _ _ U kR kR kR kL kR kR)<|sH (λj=>j == 2) ?_
  refine sZ 0 U (.slice (some ⟨g2,1,none⟩) 32 32)<|sZ 1 U (.slice (pA g3) 32 32)<|Sy.writeVD 2 U kR (by rfl) kR 2 g2 166 (.int .u8 2::Zl 32).toArray (.int .u8 2::bv a0::bv a1::[bv a2,bv a3,bv a4,bv a5,bv a6,bv a7,bv a8,bv a9,bv a10,bv a11,bv a12,bv a13,bv a14,bv a15,bv a16,bv a17,bv a18,bv a19,bv a20,bv a21,bv a22,bv a23,bv a24,bv a25,bv a26,bv a27,bv a28,bv a29,bv a30,bv a31]).toArray (.int .i64 32) kR (WritesV.copy _ _ 29 29 _ U EM kR 2 g2 1 32 32 166 (.int .u8 2::Zl 32).toArray (.int .u8 2::bv a0::bv a1::[bv a2,bv a3,bv a4,bv a5,bv a6,bv a7,bv a8,bv a9,bv a10,bv a11,bv a12,bv a13,bv a14,bv a15,bv a16,bv a17,bv a18,bv a19,bv a20,bv a21,bv a22,bv a23,bv a24,bv a25,bv a26,bv a27,bv a28,bv a29,bv a30,bv a31]).toArray kR kR 3 g3 0 32 32 22 (bv a0::bv a1::[bv a2,bv a3,bv a4,bv a5,bv a6,bv a7,bv a8,bv a9,bv a10,bv a11,bv a12,bv a13,bv a14,bv a15,bv a16,bv a17,bv a18,bv a19,bv a20,bv a21,bv a22,bv a23,bv a24,bv a25,bv a26,bv a27,bv a28,bv a29,bv a30,bv a31]).toArray kR kR (bv a0::bv a1::[bv a2,bv a3,bv a4,bv a5,bv a6,bv a7,bv a8,bv a9,bv a10,bv a11,bv a12,bv a13,bv a14,bv a15,bv a16,bv a17,bv a18,bv a19,bv a20,bv a21,bv a22,bv a23,bv a24,bv a25,bv a26,bv a27,bv a28,bv a29,bv a30,bv a31]) kR kR (I9 _ kR) kL kR)<|sE<|sB<|sS (.agg ((.int .u8 2::bv a0::bv a1::[bv a2,bv a3,bv a4,bv a5,bv a6,bv a7,bv a8,bv a9,bv a10,bv a11,bv a12,bv a13,bv a14,bv a15,bv a16,bv a17,bv a18,bv a19,bv a20,bv a21,bv a22,bv a23,bv a24,bv a25,bv a26,bv a27,bv a28,bv a29,bv a30,bv a31]):List Value).toArray) (qx 2 0 33 U U Fg kR kL)<|Sy.write kR 1 g1 166 (Zl 33).toArray (.int .u8 2::bv a0::bv a1::[bv a2,bv a3,bv a4,bv a5,bv a6,bv a7,bv a8,bv a9,bv a10,bv a11,bv a12,bv a13,bv a14,bv a15,bv a16,bv a17,bv a18,bv a19,bv a20,bv a21,bv a22,bv a23,bv a24,bv a25,bv a26,bv a27,bv a28,bv a29,bv a30,bv a31]).toArray kR (Writes.store 0 166 (.int .u8 2::bv a0::bv a1::[bv a2,bv a3,bv a4,bv a5,bv a6,bv a7,bv a8,bv a9,bv a10,bv a11,bv a12,bv a13,bv a14,bv a15,bv a16,bv a17,bv a18,bv a19,bv a20,bv a21,bv a22,bv a23,bv a24,bv a25,bv a26,bv a27,bv a28,bv a29,bv a30,bv a31]).toArray _ _ U kR kR kR kL kR kR)<|sG<|Sy.ret ?_
  rw [show (.agg ((Ay (some (u,v))).map bv).toArray:Value)=.agg ((.int .u8 2::bv a0::bv a1::[bv a2,bv a3,bv a4,bv a5,bv a6,bv a7,bv a8,bv a9,bv a10,bv a11,bv a12,bv a13,bv a14,bv a15,bv a16,bv a17,bv a18,bv a19,bv a20,bv a21,bv a22,bv a23,bv a24,bv a25,bv a26,bv a27,bv a28,bv a29,bv a30,bv a31]):List Value).toArray from by
   have e:Ay (some (u,v))=(if v.val%2=1 then 3 else 2)::BA u.val:=rfl
   rw [e,hm,if_neg (by have q:=hb1.symm; rw [Nat.mod_eq_of_lt v.isLt] at q; exact of_decide_eq_false q)]
   rfl]
  exact Sy.ret1 (v:=.agg ((.int .u8 2::bv a0::bv a1::[bv a2,bv a3,bv a4,bv a5,bv a6,bv a7,bv a8,bv a9,bv a10,bv a11,bv a12,bv a13,bv a14,bv a15,bv a16,bv a17,bv a18,bv a19,bv a20,bv a21,bv a22,bv a23,bv a24,bv a25,bv a26,bv a27,bv a28,bv a29,bv a30,bv a31]):List Value).toArray) rfl (.inl (Res.cell (ty':=166) g1 1 (.int .u8 2::bv a0::bv a1::[bv a2,bv a3,bv a4,bv a5,bv a6,bv a7,bv a8,bv a9,bv a10,bv a11,bv a12,bv a13,bv a14,bv a15,bv a16,bv a17,bv a18,bv a19,bv a20,bv a21,bv a22,bv a23,bv a24,bv a25,bv a26,bv a27,bv a28,bv a29,bv a30,bv a31]).toArray _ kR kR Fg U kR kR))
 ·refine sT<|Sy.region ?_
  refine sP (pT g2 0)<|Sy.write kR 2 g2 166 (.int .u8 2::Zl 32).toArray (.int .u8 3::Zl 32).toArray kR (wO 0 5 (.int .u8 3) rfl)<|sA<|sP (pT g0 0)<|sS (fv u.val) (qk 0 0 4 U U AN)<|sS (.agg ((bv a0::bv a1::[bv a2,bv a3,bv a4,bv a5,bv a6,bv a7,bv a8,bv a9,bv a10,bv a11,bv a12,bv a13,bv a14,bv a15,bv a16,bv a17,bv a18,bv a19,bv a20,bv a21,bv a22,bv a23,bv a24,bv a25,bv a26,bv a27,bv a28,bv a29,bv a30,bv a31]):List Value).toArray) (qf cB)<|Sy.make kR 22 (Zl 32).toArray ptr kF (λg4=>?_)
  refine Sy.write kR 3 g4 22 (Zl 32).toArray (bv a0::bv a1::[bv a2,bv a3,bv a4,bv a5,bv a6,bv a7,bv a8,bv a9,bv a10,bv a11,bv a12,bv a13,bv a14,bv a15,bv a16,bv a17,bv a18,bv a19,bv a20,bv a21,bv a22,bv a23,bv a24,bv a25,bv a26,bv a27,bv a28,bv a29,bv a30,bv a31]).toArray kR (Writes.store 0 22 (bv a0::bv a1::[bv a2,bv a3,bv a4,bv a5,bv a6,bv a7,bv a8,bv a9,bv a10,bv a11,bv a12,bv a13,bv a14,bv a15,bv a16,bv a17,bv a18,bv a19,bv a20,bv a21,bv a22,bv a23,bv a24,bv a25,bv a26,bv a27,bv a28,bv a29,bv a30,bv a31]).toArray _ _ U kR kR kR kL kR kR)<|sH (λj=>j == 2) ?_
  refine sZ 0 U (.slice (some ⟨g2,1,none⟩) 32 32)<|sZ 1 U (.slice (pA g4) 32 32)<|Sy.writeVD 2 U kR (by rfl) kR 2 g2 166 (.int .u8 3::Zl 32).toArray (.int .u8 3::bv a0::bv a1::[bv a2,bv a3,bv a4,bv a5,bv a6,bv a7,bv a8,bv a9,bv a10,bv a11,bv a12,bv a13,bv a14,bv a15,bv a16,bv a17,bv a18,bv a19,bv a20,bv a21,bv a22,bv a23,bv a24,bv a25,bv a26,bv a27,bv a28,bv a29,bv a30,bv a31]).toArray (.int .i64 32) kR (WritesV.copy _ _ 29 29 _ U EM kR 2 g2 1 32 32 166 (.int .u8 3::Zl 32).toArray (.int .u8 3::bv a0::bv a1::[bv a2,bv a3,bv a4,bv a5,bv a6,bv a7,bv a8,bv a9,bv a10,bv a11,bv a12,bv a13,bv a14,bv a15,bv a16,bv a17,bv a18,bv a19,bv a20,bv a21,bv a22,bv a23,bv a24,bv a25,bv a26,bv a27,bv a28,bv a29,bv a30,bv a31]).toArray kR kR 3 g4 0 32 32 22 (bv a0::bv a1::[bv a2,bv a3,bv a4,bv a5,bv a6,bv a7,bv a8,bv a9,bv a10,bv a11,bv a12,bv a13,bv a14,bv a15,bv a16,bv a17,bv a18,bv a19,bv a20,bv a21,bv a22,bv a23,bv a24,bv a25,bv a26,bv a27,bv a28,bv a29,bv a30,bv a31]).toArray kR kR (bv a0::bv a1::[bv a2,bv a3,bv a4,bv a5,bv a6,bv a7,bv a8,bv a9,bv a10,bv a11,bv a12,bv a13,bv a14,bv a15,bv a16,bv a17,bv a18,bv a19,bv a20,bv a21,bv a22,bv a23,bv a24,bv a25,bv a26,bv a27,bv a28,bv a29,bv a30,bv a31]) kR kR (I9 _ kR) kL kR)<|sE<|sB<|sS (.agg ((.int .u8 3::bv a0::bv a1::[bv a2,bv a3,bv a4,bv a5,bv a6,bv a7,bv a8,bv a9,bv a10,bv a11,bv a12,bv a13,bv a14,bv a15,bv a16,bv a17,bv a18,bv a19,bv a20,bv a21,bv a22,bv a23,bv a24,bv a25,bv a26,bv a27,bv a28,bv a29,bv a30,bv a31]):List Value).toArray) (qx 2 0 33 U U Fg kR kL)<|Sy.write kR 1 g1 166 (Zl 33).toArray (.int .u8 3::bv a0::bv a1::[bv a2,bv a3,bv a4,bv a5,bv a6,bv a7,bv a8,bv a9,bv a10,bv a11,bv a12,bv a13,bv a14,bv a15,bv a16,bv a17,bv a18,bv a19,bv a20,bv a21,bv a22,bv a23,bv a24,bv a25,bv a26,bv a27,bv a28,bv a29,bv a30,bv a31]).toArray kR (Writes.store 0 166 (.int .u8 3::bv a0::bv a1::[bv a2,bv a3,bv a4,bv a5,bv a6,bv a7,bv a8,bv a9,bv a10,bv a11,bv a12,bv a13,bv a14,bv a15,bv a16,bv a17,bv a18,bv a19,bv a20,bv a21,bv a22,bv a23,bv a24,bv a25,bv a26,bv a27,bv a28,bv a29,bv a30,bv a31]).toArray _ _ U kR kR kR kL kR kR)<|sG<|Sy.ret ?_
  rw [show (.agg ((Ay (some (u,v))).map bv).toArray:Value)=.agg ((.int .u8 3::bv a0::bv a1::[bv a2,bv a3,bv a4,bv a5,bv a6,bv a7,bv a8,bv a9,bv a10,bv a11,bv a12,bv a13,bv a14,bv a15,bv a16,bv a17,bv a18,bv a19,bv a20,bv a21,bv a22,bv a23,bv a24,bv a25,bv a26,bv a27,bv a28,bv a29,bv a30,bv a31]):List Value).toArray from by
   have e:Ay (some (u,v))=(if v.val%2=1 then 3 else 2)::BA u.val:=rfl
   rw [e,hm,if_pos (by have q:=hb1.symm; rw [Nat.mod_eq_of_lt v.isLt] at q; exact of_decide_eq_true q)]
   rfl]
  exact Sy.ret1 (v:=.agg ((.int .u8 3::bv a0::bv a1::[bv a2,bv a3,bv a4,bv a5,bv a6,bv a7,bv a8,bv a9,bv a10,bv a11,bv a12,bv a13,bv a14,bv a15,bv a16,bv a17,bv a18,bv a19,bv a20,bv a21,bv a22,bv a23,bv a24,bv a25,bv a26,bv a27,bv a28,bv a29,bv a30,bv a31]):List Value).toArray) rfl (.inl (Res.cell (ty':=166) g1 1 (.int .u8 3::bv a0::bv a1::[bv a2,bv a3,bv a4,bv a5,bv a6,bv a7,bv a8,bv a9,bv a10,bv a11,bv a12,bv a13,bv a14,bv a15,bv a16,bv a17,bv a18,bv a19,bv a20,bv a21,bv a22,bv a23,bv a24,bv a25,bv a26,bv a27,bv a28,bv a29,bv a30,bv a31]).toArray _ kR kR Fg U kR kR))
theorem I5 (w:World) (x y:Nat) (i:Bool) (hx:x<K4) (hy:y<K4):Calls Tryz.prog 118 #[pv x y i] w (Gets w (.agg ((Ay (dec x y i)).map bv).toArray)):=by
 rcases h:dec x y i with _ | ⟨u,v⟩
 ·exact UO w x y i hx hy h
 ·exact UN w x y i hx hy u v h
theorem Wq (w:World) (A:Option Addr) (n c:Nat) (hn:n≠33):AY 201 #[.slice A n c] w (Gets w (.tuple #[pv 0 0 true,.bool false])):=by
 refine Sy.enter (args:=[.slice A n c]) Tryz.func201 U kL<|sC<|sM 37 (pcs 0 0 false) (λg0=>?_)
 refine sp U<|sG<|Sy.seq<|sC<|sp U<|sP (.int .i64 (n:Int))<|sS (.bool true) (Quiet.pure (λw=>WD w _ _ _ _ n hn U U U))<|sG<|sT<|sC<|sS (pv 0 0 true) (qf CC)<|sw 0 U (pcs 0 0 true) (wA U)<|sp U<|sG<|Sy.ret<|Sy.then_ret ?_
 exact Sy.ret2 (v:=pv 0 0 true) (u:=.bool false) rfl (.inl (Res.cell (ty':=37) g0 0 (pcs 0 0 true) _ kR kR AX U kR kR)) (.inl (show _=_ by kernel_rfl))
theorem Yu (w:World) (ga oa cb:Nat) (o0 o1 o2 o3 o4 o5 o6 o7 o8 o9 o10 o11 o12 o13 o14 o15 o16 o17 o18 o19 o20 o21 o22 o23 o24 o25 o26 o27 o28 o29 o30 o31 o32:UInt8) (hs:SrcL w ga oa (o0::o1::o2::[o3,o4,o5,o6,o7,o8,o9,o10,o11,o12,o13,o14,o15,o16,o17,o18,o19,o20,o21,o22,o23,o24,o25,o26,o27,o28,o29,o30,o31,o32])) (hcap:33≤cb):AY 201 #[.slice (some ⟨ga,oa,none⟩) 33 cb] w (Gets w (.tuple #[ptv (F6 (o0::o1::o2::[o3,o4,o5,o6,o7,o8,o9,o10,o11,o12,o13,o14,o15,o16,o17,o18,o19,o20,o21,o22,o23,o24,o25,o26,o27,o28,o29,o30,o31,o32])),.bool (Ck (o0::o1::o2::[o3,o4,o5,o6,o7,o8,o9,o10,o11,o12,o13,o14,o15,o16,o17,o18,o19,o20,o21,o22,o23,o24,o25,o26,o27,o28,o29,o30,o31,o32]))])):=by
 have hl:List.length ((o1::o2::[o3,o4,o5,o6,o7,o8,o9,o10,o11,o12,o13,o14,o15,o16,o17,o18,o19,o20,o21,o22,o23,o24,o25,o26,o27,o28,o29,o30,o31,o32]):List UInt8)=32:=rfl
 obtain ⟨tl,htl⟩:∃ t:AF,t=(o1::o2::[o3,o4,o5,o6,o7,o8,o9,o10,o11,o12,o13,o14,o15,o16,o17,o18,o19,o20,o21,o22,o23,o24,o25,o26,o27,o28,o29,o30,o31,o32]):=⟨_,rfl⟩
 obtain ⟨px,py,pi,lpx,lpy,ep,dp,rp⟩:=L2 (Ah tl) (Fy tl)
 obtain ⟨nx,ny,ni,lnx,lny,en,dn,rn⟩:=L2 (Ec.neg (Ah tl)) (Ec.On.neg (Fy tl))
 obtain ⟨kb,hkb⟩:=xE (A7 tl)
 have cL:∀ w,AY 171 #[.agg ((o1::o2::[o3,o4,o5,o6,o7,o8,o9,o10,o11,o12,o13,o14,o15,o16,o17,o18,o19,o20,o21,o22,o23,o24,o25,o26,o27,o28,o29,o30,o31,o32]).map bv).toArray] w (Gets w (.tuple #[pv px py pi,.bool kb])):=λw=>by
  have h:=Nc w _ hl
  rw [← htl,ep, ← hkb] at h
  rw [← htl]
  exact h
 have cN:∀ w,AY 92 #[pv px py pi] w (Gets w (pv nx ny ni)):=λw=>by
  have h:=L_ w px py pi lpx lpy
  rw [dp,en] at h
  exact h
 have cE:∀ w,AY 118 #[pv px py pi] w (Gets w (.agg ((Ay (Ah tl)).map bv).toArray)):=λw=>by
  have h:=I5 w px py pi lpx lpy
  rw [dp] at h
  exact h
 have cF:∀ w,AY 118 #[pv nx ny ni] w (Gets w (.agg ((Ay (Ec.neg (Ah tl))).map bv).toArray)):=λw=>by
  have h:=I5 w nx ny ni lnx lny
  rw [dn] at h
  exact h
 refine Sy.enter (args:=[.slice (some ⟨ga,oa,none⟩) 33 cb]) Tryz.func201 U kL<|sC<|sM 37 (pcs 0 0 false) (λg0=>?_)
 refine sp U<|sG<|Sy.seq<|sC<|sp U<|sP (.int .i64 33)<|sP (.bool false)<|sG<|sU<|Sy.skip<|sB<|sp U<|sS (.slice (some ⟨ga,oa+1,none⟩) 32 (cb - 1)) (Quiet.pure (λw=>SD 29 _ _ ga oa 33 cb 1 U kR kR kR kF dZ hcap w))<|sS (pT ga (oa+1)) (Quiet.pure (λw=>EE 146 _ _ (some ⟨ga,oa+1,none⟩) 32 32 (cb - 1) rfl kR Kj dZ w))<|sS (.agg ((o1::o2::[o3,o4,o5,o6,o7,o8,o9,o10,o11,o12,o13,o14,o15,o16,o17,o18,o19,o20,o21,o22,o23,o24,o25,o26,o27,o28,o29,o30,o31,o32]).map bv).toArray) (Quiet.there ga (oa+1) 32 146 (bv o1::bv o2::[bv o3,bv o4,bv o5,bv o6,bv o7,bv o8,bv o9,bv o10,bv o11,bv o12,bv o13,bv o14,bv o15,bv o16,bv o17,bv o18,bv o19,bv o20,bv o21,bv o22,bv o23,bv o24,bv o25,bv o26,bv o27,bv o28,bv o29,bv o30,bv o31,bv o32]) _ _ U kR hs.1 (hs.2 1 _ kR) Kj U kR U _ kR)<|sS (.tuple #[pv px py pi,.bool kb]) (qf cL)<|sp U<|sp U<|sp U<|sM 37 (pcs 0 0 false) (λg1=>?_)
 refine sw 1 U (pcs px py pi) (wA U)<|sp U<|sG<|Sy.seq<|sC<|sp U<|sS (pT ga oa) (Quiet.pure (λw=>PW 29 _ _ ga oa 33 cb 0 U kR kR kR kF dZ w))<|sS (bv o0) (Quiet.thereOne ga (oa+0) 5 _ _ U kR hs.1 _ (VV hs 0 _ kR) uy5 U) ?_
 obtain ⟨b1,hb1⟩:=xE (decide (o0=UInt8.ofNat 3))
 refine sS (.bool b1) (Quiet.pure (λw=>by rw [hb1]; exact Ys w _ _ _ _ _ 3 dZ U U U))<|sG ?_
 cases b1
 ·refine sU<|Sy.skip<|Sy.then_<|Sy.seq<|Sy.seq ?_
  refine Sy.regionD (λj=>false) kR<|sD 0 U (pv px py pi) (qk 1 0 9 U U AX)<|sD 1 U (.agg ((Ay (Ah tl)).map bv).toArray) (qf cE)<|sz 2 U U<|sD 3 U (pT ga oa) (Quiet.pure (λw=>EE 166 _ _ (some ⟨ga,oa,none⟩) 33 33 cb rfl kR Fg dZ w))<|sD 4 U (.agg ((o0::o1::o2::[o3,o4,o5,o6,o7,o8,o9,o10,o11,o12,o13,o14,o15,o16,o17,o18,o19,o20,o21,o22,o23,o24,o25,o26,o27,o28,o29,o30,o31,o32]).map bv).toArray) (Quiet.there ga oa 33 166 (bv o0::bv o1::bv o2::[bv o3,bv o4,bv o5,bv o6,bv o7,bv o8,bv o9,bv o10,bv o11,bv o12,bv o13,bv o14,bv o15,bv o16,bv o17,bv o18,bv o19,bv o20,bv o21,bv o22,bv o23,bv o24,bv o25,bv o26,bv o27,bv o28,bv o29,bv o30,bv o31,bv o32]) _ _ U kR hs.1 (hs.2 0 _ kR) Fg U kR U _ kR) ?_
  obtain ⟨b2,hb2⟩:=xE (decide ((Ay (Ah tl))≠(o0::o1::o2::[o3,o4,o5,o6,o7,o8,o9,o10,o11,o12,o13,o14,o15,o16,o17,o18,o19,o20,o21,o22,o23,o24,o25,o26,o27,o28,o29,o30,o31,o32])))
  refine sD 5 U (.bool b2) (Quiet.pure (λw=>by rw [hb2]; exact Tm w _ _ _ _ (Ay (Ah tl)) (o0::o1::o2::[o3,o4,o5,o6,o7,o8,o9,o10,o11,o12,o13,o14,o15,o16,o17,o18,o19,o20,o21,o22,o23,o24,o25,o26,o27,o28,o29,o30,o31,o32]) (Ai _) rfl U U U))<|sI ?_
  cases b2
  ·refine sU<|Sy.skip<|sB ?_
   refine sS (pv px py pi) (qk 1 0 9 U U AX)<|sw 0 U (pcs px py pi) (wA U)<|sp U<|sG<|Sy.ret ?_
   rw [show (.tuple #[ptv (F6 (o0::o1::o2::[o3,o4,o5,o6,o7,o8,o9,o10,o11,o12,o13,o14,o15,o16,o17,o18,o19,o20,o21,o22,o23,o24,o25,o26,o27,o28,o29,o30,o31,o32])),.bool (Ck (o0::o1::o2::[o3,o4,o5,o6,o7,o8,o9,o10,o11,o12,o13,o14,o15,o16,o17,o18,o19,o20,o21,o22,o23,o24,o25,o26,o27,o28,o29,o30,o31,o32]))]:Value)=.tuple #[pv px py pi,.bool true] from by
    have hc:Dp (o0::o1::o2::[o3,o4,o5,o6,o7,o8,o9,o10,o11,o12,o13,o14,o15,o16,o17,o18,o19,o20,o21,o22,o23,o24,o25,o26,o27,o28,o29,o30,o31,o32])=Ah tl:=by
     rw [htl]; exact Qr _ _ (of_decide_eq_false hb1.symm)
    have hd:Ck (o0::o1::o2::[o3,o4,o5,o6,o7,o8,o9,o10,o11,o12,o13,o14,o15,o16,o17,o18,o19,o20,o21,o22,o23,o24,o25,o26,o27,o28,o29,o30,o31,o32])=true:=by unfold Ck; rw [hc]; exact decide_eq_true ⟨rfl,Decidable.of_not_not (of_decide_eq_false hb2.symm)⟩
    rw [hd,(Qk hd).1,hc,ep]]
   exact Sy.ret2 (v:=pv px py pi) (u:=.bool true) rfl (.inl (Res.cell (ty':=37) g0 0 (pcs px py pi) _ kR kR AX U kR kR)) (.inl (show _=_ by kernel_rfl))
  ·refine sT<|sC ?_
   refine sS (pv 0 0 true) (qf CC)<|sw 0 U (pcs 0 0 true) (wA U)<|sp U<|sG<|Sy.ret<|Sy.then_ret ?_
   rw [show (.tuple #[ptv (F6 (o0::o1::o2::[o3,o4,o5,o6,o7,o8,o9,o10,o11,o12,o13,o14,o15,o16,o17,o18,o19,o20,o21,o22,o23,o24,o25,o26,o27,o28,o29,o30,o31,o32])),.bool (Ck (o0::o1::o2::[o3,o4,o5,o6,o7,o8,o9,o10,o11,o12,o13,o14,o15,o16,o17,o18,o19,o20,o21,o22,o23,o24,o25,o26,o27,o28,o29,o30,o31,o32]))]:Value)=.tuple #[pv 0 0 true,.bool false] from by
    have hc:Dp (o0::o1::o2::[o3,o4,o5,o6,o7,o8,o9,o10,o11,o12,o13,o14,o15,o16,o17,o18,o19,o20,o21,o22,o23,o24,o25,o26,o27,o28,o29,o30,o31,o32])=Ah tl:=by
     rw [htl]; exact Qr _ _ (of_decide_eq_false hb1.symm)
    have hd:Ck (o0::o1::o2::[o3,o4,o5,o6,o7,o8,o9,o10,o11,o12,o13,o14,o15,o16,o17,o18,o19,o20,o21,o22,o23,o24,o25,o26,o27,o28,o29,o30,o31,o32])=false:=by unfold Ck; rw [hc]; exact decide_eq_false (λk=>of_decide_eq_true hb2.symm k.2)
    rw [hd,MN hd]; rfl]
   exact Sy.ret2 (v:=pv 0 0 true) (u:=.bool false) rfl (.inl (Res.cell (ty':=37) g0 0 (pcs 0 0 true) _ kR kR AX U kR kR)) (.inl (show _=_ by kernel_rfl))
 ·refine sT<|Sy.region ?_
  refine sS (pv px py pi) (qk 1 0 9 U U AX)<|sS (pv nx ny ni) (qf cN)<|sw 1 U (pcs nx ny ni) (wA U)<|sG<|Sy.seq<|Sy.seq<|Sy.regionD (λj=>false) kR<|sD 0 U (pv nx ny ni) (qk 1 0 9 U U AX)<|sD 1 U (.agg ((Ay (Ec.neg (Ah tl))).map bv).toArray) (qf cF)<|sz 2 U U<|sD 3 U (pT ga oa) (Quiet.pure (λw=>EE 166 _ _ (some ⟨ga,oa,none⟩) 33 33 cb rfl kR Fg dZ w))<|sD 4 U (.agg ((o0::o1::o2::[o3,o4,o5,o6,o7,o8,o9,o10,o11,o12,o13,o14,o15,o16,o17,o18,o19,o20,o21,o22,o23,o24,o25,o26,o27,o28,o29,o30,o31,o32]).map bv).toArray) (Quiet.there ga oa 33 166 (bv o0::bv o1::bv o2::[bv o3,bv o4,bv o5,bv o6,bv o7,bv o8,bv o9,bv o10,bv o11,bv o12,bv o13,bv o14,bv o15,bv o16,bv o17,bv o18,bv o19,bv o20,bv o21,bv o22,bv o23,bv o24,bv o25,bv o26,bv o27,bv o28,bv o29,bv o30,bv o31,bv o32]) _ _ U kR hs.1 (hs.2 0 _ kR) Fg U kR U _ kR) ?_
  obtain ⟨b3,hb3⟩:=xE (decide ((Ay (Ec.neg (Ah tl)))≠(o0::o1::o2::[o3,o4,o5,o6,o7,o8,o9,o10,o11,o12,o13,o14,o15,o16,o17,o18,o19,o20,o21,o22,o23,o24,o25,o26,o27,o28,o29,o30,o31,o32])))
  refine sD 5 U (.bool b3) (Quiet.pure (λw=>by rw [hb3]; exact Tm w _ _ _ _ (Ay (Ec.neg (Ah tl))) (o0::o1::o2::[o3,o4,o5,o6,o7,o8,o9,o10,o11,o12,o13,o14,o15,o16,o17,o18,o19,o20,o21,o22,o23,o24,o25,o26,o27,o28,o29,o30,o31,o32]) (Ai _) rfl U U U))<|sI ?_
  cases b3
  ·refine sU<|Sy.skip<|sB ?_
   refine sS (pv nx ny ni) (qk 1 0 9 U U AX)<|sw 0 U (pcs nx ny ni) (wA U)<|sp U<|sG<|Sy.ret ?_
   rw [show (.tuple #[ptv (F6 (o0::o1::o2::[o3,o4,o5,o6,o7,o8,o9,o10,o11,o12,o13,o14,o15,o16,o17,o18,o19,o20,o21,o22,o23,o24,o25,o26,o27,o28,o29,o30,o31,o32])),.bool (Ck (o0::o1::o2::[o3,o4,o5,o6,o7,o8,o9,o10,o11,o12,o13,o14,o15,o16,o17,o18,o19,o20,o21,o22,o23,o24,o25,o26,o27,o28,o29,o30,o31,o32]))]:Value)=.tuple #[pv nx ny ni,.bool true] from by
    have hc:Dp (o0::o1::o2::[o3,o4,o5,o6,o7,o8,o9,o10,o11,o12,o13,o14,o15,o16,o17,o18,o19,o20,o21,o22,o23,o24,o25,o26,o27,o28,o29,o30,o31,o32])=Ec.neg (Ah tl):=by
     rw [htl,show o0=3 from of_decide_eq_true hb1.symm]; exact Up _
    have hd:Ck (o0::o1::o2::[o3,o4,o5,o6,o7,o8,o9,o10,o11,o12,o13,o14,o15,o16,o17,o18,o19,o20,o21,o22,o23,o24,o25,o26,o27,o28,o29,o30,o31,o32])=true:=by unfold Ck; rw [hc]; exact decide_eq_true ⟨rfl,Decidable.of_not_not (of_decide_eq_false hb3.symm)⟩
    rw [hd,(Qk hd).1,hc,en]]
   exact Sy.ret2 (v:=pv nx ny ni) (u:=.bool true) rfl (.inl (Res.cell (ty':=37) g0 0 (pcs nx ny ni) _ kR kR AX U kR kR)) (.inl (show _=_ by kernel_rfl))
  ·refine sT<|sC ?_
   refine sS (pv 0 0 true) (qf CC)<|sw 0 U (pcs 0 0 true) (wA U)<|sp U<|sG<|Sy.ret<|Sy.then_ret ?_
   rw [show (.tuple #[ptv (F6 (o0::o1::o2::[o3,o4,o5,o6,o7,o8,o9,o10,o11,o12,o13,o14,o15,o16,o17,o18,o19,o20,o21,o22,o23,o24,o25,o26,o27,o28,o29,o30,o31,o32])),.bool (Ck (o0::o1::o2::[o3,o4,o5,o6,o7,o8,o9,o10,o11,o12,o13,o14,o15,o16,o17,o18,o19,o20,o21,o22,o23,o24,o25,o26,o27,o28,o29,o30,o31,o32]))]:Value)=.tuple #[pv 0 0 true,.bool false] from by
    have hc:Dp (o0::o1::o2::[o3,o4,o5,o6,o7,o8,o9,o10,o11,o12,o13,o14,o15,o16,o17,o18,o19,o20,o21,o22,o23,o24,o25,o26,o27,o28,o29,o30,o31,o32])=Ec.neg (Ah tl):=by
     rw [htl,show o0=3 from of_decide_eq_true hb1.symm]; exact Up _
    have hd:Ck (o0::o1::o2::[o3,o4,o5,o6,o7,o8,o9,o10,o11,o12,o13,o14,o15,o16,o17,o18,o19,o20,o21,o22,o23,o24,o25,o26,o27,o28,o29,o30,o31,o32])=false:=by unfold Ck; rw [hc]; exact decide_eq_false (λk=>of_decide_eq_true hb3.symm k.2)
    rw [hd,MN hd]; rfl]
   exact Sy.ret2 (v:=pv 0 0 true) (u:=.bool false) rfl (.inl (Res.cell (ty':=37) g0 0 (pcs 0 0 true) _ kR kR AX U kR kR)) (.inl (show _=_ by kernel_rfl))
theorem PY (w:World) (A:Option Addr) (b:AF) (n c:Nat) (hn:b.length=n) (hs:Src w A b) (hc:n≤c):Calls Tryz.prog 201 #[.slice A n c] w (Gets w (.tuple #[ptv (F6 b),.bool (Ck b)])):=by
 by_cases h:n=33
 ·subst h
  obtain ⟨ga,oa,rfl,hl,hcell⟩:=hs (by intro e; rw [e] at hn; cases hn)
  obtain ⟨o0,o1,o2,o3,o4,o5,o6,o7,o8,o9,o10,o11,o12,o13,o14,o15,o16,o17,o18,o19,o20,o21,o22,o23,o24,o25,o26,o27,o28,o29,o30,o31,o32,rfl⟩:=Yj b hn
  exact Yu w ga oa c o0 o1 o2 o3 o4 o5 o6 o7 o8 o9 o10 o11 o12 o13 o14 o15 o16 o17 o18 o19 o20 o21 o22 o23 o24 o25 o26 o27 o28 o29 o30 o31 o32 (SrcL.of hl hcell) hc
 ·have hd:Ck b=false:=by unfold Ck; exact decide_eq_false (λk=>h (hn ▸ k.1))
  rw [hd,MN hd]
  exact Wq w A n c h
end Cu
end
section
namespace Sc
open Go.RowKit Go.Lib
theorem Wf (w:World):Calls Tryz.prog 231 #[] w λe w'=>e=.returned (fv 432420386565659656852420866394968145599)∧Below w.heap.size w w':=by
 go_enter Tryz.func231,Tryz.ntmps231
 go_wp2
 exact bodyPost_ret (results_cell_row U _ _ w.heap.size _ _ (0,0) _ U (heap_alloc_new w _) Au U kR) rfl ⟨rfl,(Below.refl _ _).alloc (Nat.le_refl _) _⟩
theorem Ep (w:World) (x y:Nat) (hx:x<(2^256)) (hy:y<(2^256)):Calls Tryz.prog 163 #[fv x,fv y] w λe w'=>(∃ s k:Nat,s<(2^256)∧k≤1∧s+(2^256)*k=x+y∧e=.returned (.tuple #[fv s,.int .u64 (k:Int)]))∧Below w.heap.size w w':=by
 obtain ⟨x0,x1,x2,x3,a0,a1,a2,a3,ex,fx⟩:=Aw x hx
 obtain ⟨y0,y1,y2,y3,b0,b1,b2,b3,ey,fy⟩:=Aw y hy
 rw [fx,fy]
 obtain ⟨s0,c0,d0,k0,e0,r0⟩:=DN x0 y0 a0 b0
 obtain ⟨s1,c1,d1,k1,e1,r1⟩:=C3 x1 y1 c0 a1 b1 k0
 obtain ⟨s2,c2,d2,k2,e2,r2⟩:=C3 x2 y2 c1 a2 b2 k1
 obtain ⟨s3,c3,d3,k3,e3,r3⟩:=C3 x3 y3 c2 a3 b3 k2
 have fin:s0+18446744073709551616*s1+340282366920938463463374607431768211456*s2+6277101735386680763835789423207666416102355444464034512896*s3+(2^256)*c3=x+y:=om
 have hs:=Lib.hid (DM s0 s1 s2 s3 d0 d1 d2 d3)
 have hlt:=Lib.hid (LH s0 s1 s2 s3 d0 d1 d2 d3)
 have HF:=Lib.hid fin
 have HK:=Lib.hid k3
 clear ex ey fx fy e0 e1 e2 e3 a0 a1 a2 a3 b0 b1 b2 b3 d0 d1 d2 d3 k0 k1 k2 k3 fin hx hy
 go_enter Tryz.func163,Tryz.ntmps163
 go_wp2_with fail
 go_loopw [5,7] (λbo i wr=>Below w.heap.size w wr∧Blk wr w.heap.size 26 #[.int .u64 (x0:Int),.int .u64 (x1:Int),.int .u64 (x2:Int),.int .u64 (x3:Int)]∧Blk wr (w.heap.size+1) 26 #[.int .u64 (y0:Int),.int .u64 (y1:Int),.int .u64 (y2:Int),.int .u64 (y3:Int)]∧Hid ((i=.int .i64 0∧bo=.int .u64 0∧Blk wr (w.heap.size+2) 26 #[.int .u64 0,.int .u64 0,.int .u64 0,.int .u64 0])∨(i=.int .i64 1∧bo=.int .u64 (c0:Int)∧Blk wr (w.heap.size+2) 26 #[.int .u64 (s0:Int),.int .u64 0,.int .u64 0,.int .u64 0])∨(i=.int .i64 2∧bo=.int .u64 (c1:Int)∧Blk wr (w.heap.size+2) 26 #[.int .u64 (s0:Int),.int .u64 (s1:Int),.int .u64 0,.int .u64 0])∨(i=.int .i64 3∧bo=.int .u64 (c2:Int)∧Blk wr (w.heap.size+2) 26 #[.int .u64 (s0:Int),.int .u64 (s1:Int),.int .u64 (s2:Int),.int .u64 0])∨(i=.int .i64 4∧bo=.int .u64 (c3:Int)∧Blk wr (w.heap.size+2) 26 #[.int .u64 (s0:Int),.int .u64 (s1:Int),.int .u64 (s2:Int),.int .u64 (s3:Int)]))) (λ_ i _=>4 - (intOf i).toNat)
 case atStart=>exact ⟨Ac w _ _ _,((Blk.new w _ _).alloc _).alloc _,(AZ w _ _ _).alloc _,Lib.hid (.inl ⟨rfl,rfl,Ax w _ _ _ _⟩)⟩
 case round =>
  obtain ⟨hb,BX,BY,HI⟩:=hrel
  have lX:=BX.lt
  have lY:=BY.lt
  rcases HI.out with ⟨rfl,rfl,BW⟩ | ⟨rfl,rfl,BW⟩ | ⟨rfl,rfl,BW⟩ | ⟨rfl,rfl,BW⟩ | ⟨rfl,rfl,BW⟩
  ·clear HI
   have px:wr.cell? ⟨w.heap.size,0,none⟩=some (.int .u64 (x0:Int)):=BX.cell 0
   have py:wr.cell? ⟨w.heap.size+1,0,none⟩=some (.int .u64 (y0:Int)):=BY.cell 0
   go_wp2
   refine AJ (λj=>j == 13) kR ?_
   try simp only [Act.put]
   refine tk 0 U ?_
   refine tk 1 U ?_
   refine tk 2 U ?_
   try simp only [aPS]
   refine tkw 3 U (YieldsG.pure (v:=.int .u64 (x0:Int)) (by rfl) (λw9 h9=>by have hz:=(Below.cell (p:=⟨w.heap.size,0,none⟩) h9 lX).trans px; go_simp; first | done | simp [hz])) ?_
   try simp only [aPS]
   refine tk 4 U ?_
   refine tk 5 U ?_
   try simp only [aPS]
   refine tkw 6 U (YieldsG.pure (v:=.int .u64 (y0:Int)) (by rfl) (λw9 h9=>by have hz:=(Below.cell (p:=⟨w.heap.size+1,0,none⟩) h9 lY).trans py; go_simp; first | done | simp [hz])) ?_
   try simp only [aPS]
   refine tk 7 U ?_
   try simp only [aPS]
   refine tkw 8 U (YieldsG.pure (v:=.tuple #[.int .u64 (s0:Int),.int .u64 (c0:Int)]) (by rfl) (λw9 h9=>by go_simp)) ?_
   try simp only [aPS]
   refine tk 9 U ?_
   refine tk 10 U ?_
   try simp only [aPS]
   refine Aa 11 U kR (λ_ _ _ h=>h) (λ_=>YieldsG.pure (by rfl) (λw9 _=>by go_simp; try with_reducible rfl)) ?_
   try simp only [aPS]
   refine tk 12 U ?_
   try simp only [aPS]
   refine Al 13 U kR (by rfl) (λu hu K hK=>?_)
   have BX:=Gr.blk hu BX
   have BY:=Gr.blk hu BY
   have BW:=Gr.blk hu BW
   have hb:=Below.gr hb hu
   have pc:u.cell? ⟨w.heap.size+2,0,none⟩=some (.int .u64 0):=BW.cell 0
   have pf:=BW.frozen 0
   clear hu px py
   go_simp
   refine hK _ _ (λe=>by cases e) ?_
   clear hK K
   have hb:=hb.setCell (p:=⟨w.heap.size+2,0,none⟩) (by show w.heap.size≤w.heap.size+2; omega) (.int .u64 (s0:Int))
   have BX:=BX.far (p:=⟨w.heap.size+2,0,none⟩) (by show w.heap.size≠w.heap.size+2; omega) (.int .u64 (s0:Int))
   have BY:=BY.far (p:=⟨w.heap.size+2,0,none⟩) (by show w.heap.size+1≠w.heap.size+2; omega) (.int .u64 (s0:Int))
   have BW:=BW.set_ 0 (.int .u64 (s0:Int))
   refine Aa 14 U kR (λ_ _ _ h=>h) (λ_=>YieldsG.pure (by rfl) (λw9 _=>by go_simp; try with_reducible rfl)) ?_
   try simp only [aPS]
   refine AH kR (λv hv=>?_)
   have hb:=Below.gr hb hv
   have BX:=Gr.blk hv BX
   have BY:=Gr.blk hv BY
   have BW:=Gr.blk hv BW
   clear hv pc pf
   go_wp2
   refine ⟨⟨hb,BX,BY,Lib.hid (.inr (.inl (⟨rfl,rfl,BW⟩)))⟩,by decide⟩
  ·clear HI
   have px:wr.cell? ⟨w.heap.size,1,none⟩=some (.int .u64 (x1:Int)):=BX.cell 1
   have py:wr.cell? ⟨w.heap.size+1,1,none⟩=some (.int .u64 (y1:Int)):=BY.cell 1
   go_wp2
   refine AJ (λj=>j == 13) kR ?_
   try simp only [Act.put]
   refine tk 0 U ?_
   refine tk 1 U ?_
   refine tk 2 U ?_
   try simp only [aPS]
   refine tkw 3 U (YieldsG.pure (v:=.int .u64 (x1:Int)) (by rfl) (λw9 h9=>by have hz:=(Below.cell (p:=⟨w.heap.size,1,none⟩) h9 lX).trans px; go_simp; first | done | simp [hz])) ?_
   try simp only [aPS]
   refine tk 4 U ?_
   refine tk 5 U ?_
   try simp only [aPS]
   refine tkw 6 U (YieldsG.pure (v:=.int .u64 (y1:Int)) (by rfl) (λw9 h9=>by have hz:=(Below.cell (p:=⟨w.heap.size+1,1,none⟩) h9 lY).trans py; go_simp; first | done | simp [hz])) ?_
   try simp only [aPS]
   refine tk 7 U ?_
   try simp only [aPS]
   refine tkw 8 U (YieldsG.pure (v:=.tuple #[.int .u64 (s1:Int),.int .u64 (c1:Int)]) (by rfl) (λw9 h9=>by go_simp)) ?_
   try simp only [aPS]
   refine tk 9 U ?_
   refine tk 10 U ?_
   try simp only [aPS]
   refine Aa 11 U kR (λ_ _ _ h=>h) (λ_=>YieldsG.pure (by rfl) (λw9 _=>by go_simp; try with_reducible rfl)) ?_
   try simp only [aPS]
   refine tk 12 U ?_
   try simp only [aPS]
   refine Al 13 U kR (by rfl) (λu hu K hK=>?_)
   have BX:=Gr.blk hu BX
   have BY:=Gr.blk hu BY
   have BW:=Gr.blk hu BW
   have hb:=Below.gr hb hu
   have pc:u.cell? ⟨w.heap.size+2,1,none⟩=some (.int .u64 0):=BW.cell 1
   have pf:=BW.frozen 1
   clear hu px py
   go_simp
   refine hK _ _ (λe=>by cases e) ?_
   clear hK K
   have hb:=hb.setCell (p:=⟨w.heap.size+2,1,none⟩) (by show w.heap.size≤w.heap.size+2; omega) (.int .u64 (s1:Int))
   have BX:=BX.far (p:=⟨w.heap.size+2,1,none⟩) (by show w.heap.size≠w.heap.size+2; omega) (.int .u64 (s1:Int))
   have BY:=BY.far (p:=⟨w.heap.size+2,1,none⟩) (by show w.heap.size+1≠w.heap.size+2; omega) (.int .u64 (s1:Int))
   have BW:=BW.set_ 1 (.int .u64 (s1:Int))
   refine Aa 14 U kR (λ_ _ _ h=>h) (λ_=>YieldsG.pure (by rfl) (λw9 _=>by go_simp; try with_reducible rfl)) ?_
   try simp only [aPS]
   refine AH kR (λv hv=>?_)
   have hb:=Below.gr hb hv
   have BX:=Gr.blk hv BX
   have BY:=Gr.blk hv BY
   have BW:=Gr.blk hv BW
   clear hv pc pf
   go_wp2
   refine ⟨⟨hb,BX,BY,Lib.hid (.inr (.inr (.inl (⟨rfl,rfl,BW⟩))))⟩,by decide⟩
  ·clear HI
   have px:wr.cell? ⟨w.heap.size,2,none⟩=some (.int .u64 (x2:Int)):=BX.cell 2
   have py:wr.cell? ⟨w.heap.size+1,2,none⟩=some (.int .u64 (y2:Int)):=BY.cell 2
   go_wp2
   refine AJ (λj=>j == 13) kR ?_
   try simp only [Act.put]
   refine tk 0 U ?_
   refine tk 1 U ?_
   refine tk 2 U ?_
   try simp only [aPS]
   refine tkw 3 U (YieldsG.pure (v:=.int .u64 (x2:Int)) (by rfl) (λw9 h9=>by have hz:=(Below.cell (p:=⟨w.heap.size,2,none⟩) h9 lX).trans px; go_simp; first | done | simp [hz])) ?_
   try simp only [aPS]
   refine tk 4 U ?_
   refine tk 5 U ?_
   try simp only [aPS]
   refine tkw 6 U (YieldsG.pure (v:=.int .u64 (y2:Int)) (by rfl) (λw9 h9=>by have hz:=(Below.cell (p:=⟨w.heap.size+1,2,none⟩) h9 lY).trans py; go_simp; first | done | simp [hz])) ?_
   try simp only [aPS]
   refine tk 7 U ?_
   try simp only [aPS]
   refine tkw 8 U (YieldsG.pure (v:=.tuple #[.int .u64 (s2:Int),.int .u64 (c2:Int)]) (by rfl) (λw9 h9=>by go_simp)) ?_
   try simp only [aPS]
   refine tk 9 U ?_
   refine tk 10 U ?_
   try simp only [aPS]
   refine Aa 11 U kR (λ_ _ _ h=>h) (λ_=>YieldsG.pure (by rfl) (λw9 _=>by go_simp; try with_reducible rfl)) ?_
   try simp only [aPS]
   refine tk 12 U ?_
   try simp only [aPS]
   refine Al 13 U kR (by rfl) (λu hu K hK=>?_)
   have BX:=Gr.blk hu BX
   have BY:=Gr.blk hu BY
   have BW:=Gr.blk hu BW
   have hb:=Below.gr hb hu
   have pc:u.cell? ⟨w.heap.size+2,2,none⟩=some (.int .u64 0):=BW.cell 2
   have pf:=BW.frozen 2
   clear hu px py
   go_simp
   refine hK _ _ (λe=>by cases e) ?_
   clear hK K
   have hb:=hb.setCell (p:=⟨w.heap.size+2,2,none⟩) (by show w.heap.size≤w.heap.size+2; omega) (.int .u64 (s2:Int))
   have BX:=BX.far (p:=⟨w.heap.size+2,2,none⟩) (by show w.heap.size≠w.heap.size+2; omega) (.int .u64 (s2:Int))
   have BY:=BY.far (p:=⟨w.heap.size+2,2,none⟩) (by show w.heap.size+1≠w.heap.size+2; omega) (.int .u64 (s2:Int))
   have BW:=BW.set_ 2 (.int .u64 (s2:Int))
   refine Aa 14 U kR (λ_ _ _ h=>h) (λ_=>YieldsG.pure (by rfl) (λw9 _=>by go_simp; try with_reducible rfl)) ?_
   try simp only [aPS]
   refine AH kR (λv hv=>?_)
   have hb:=Below.gr hb hv
   have BX:=Gr.blk hv BX
   have BY:=Gr.blk hv BY
   have BW:=Gr.blk hv BW
   clear hv pc pf
   go_wp2
   refine ⟨⟨hb,BX,BY,Lib.hid (.inr (.inr (.inr (.inl (⟨rfl,rfl,BW⟩)))))⟩,by decide⟩
  ·clear HI
   have px:wr.cell? ⟨w.heap.size,3,none⟩=some (.int .u64 (x3:Int)):=BX.cell 3
   have py:wr.cell? ⟨w.heap.size+1,3,none⟩=some (.int .u64 (y3:Int)):=BY.cell 3
   go_wp2
   refine AJ (λj=>j == 13) kR ?_
   try simp only [Act.put]
   refine tk 0 U ?_
   refine tk 1 U ?_
   refine tk 2 U ?_
   try simp only [aPS]
   refine tkw 3 U (YieldsG.pure (v:=.int .u64 (x3:Int)) (by rfl) (λw9 h9=>by have hz:=(Below.cell (p:=⟨w.heap.size,3,none⟩) h9 lX).trans px; go_simp; first | done | simp [hz])) ?_
   try simp only [aPS]
   refine tk 4 U ?_
   refine tk 5 U ?_
   try simp only [aPS]
   refine tkw 6 U (YieldsG.pure (v:=.int .u64 (y3:Int)) (by rfl) (λw9 h9=>by have hz:=(Below.cell (p:=⟨w.heap.size+1,3,none⟩) h9 lY).trans py; go_simp; first | done | simp [hz])) ?_
   try simp only [aPS]
   refine tk 7 U ?_
   try simp only [aPS]
   refine tkw 8 U (YieldsG.pure (v:=.tuple #[.int .u64 (s3:Int),.int .u64 (c3:Int)]) (by rfl) (λw9 h9=>by go_simp)) ?_
   try simp only [aPS]
   refine tk 9 U ?_
   refine tk 10 U ?_
   try simp only [aPS]
   refine Aa 11 U kR (λ_ _ _ h=>h) (λ_=>YieldsG.pure (by rfl) (λw9 _=>by go_simp; try with_reducible rfl)) ?_
   try simp only [aPS]
   refine tk 12 U ?_
   try simp only [aPS]
   refine Al 13 U kR (by rfl) (λu hu K hK=>?_)
   have BX:=Gr.blk hu BX
   have BY:=Gr.blk hu BY
   have BW:=Gr.blk hu BW
   have hb:=Below.gr hb hu
   have pc:u.cell? ⟨w.heap.size+2,3,none⟩=some (.int .u64 0):=BW.cell 3
   have pf:=BW.frozen 3
   clear hu px py
   go_simp
   refine hK _ _ (λe=>by cases e) ?_
   clear hK K
   have hb:=hb.setCell (p:=⟨w.heap.size+2,3,none⟩) (by show w.heap.size≤w.heap.size+2; omega) (.int .u64 (s3:Int))
   have BX:=BX.far (p:=⟨w.heap.size+2,3,none⟩) (by show w.heap.size≠w.heap.size+2; omega) (.int .u64 (s3:Int))
   have BY:=BY.far (p:=⟨w.heap.size+2,3,none⟩) (by show w.heap.size+1≠w.heap.size+2; omega) (.int .u64 (s3:Int))
   have BW:=BW.set_ 3 (.int .u64 (s3:Int))
   refine Aa 14 U kR (λ_ _ _ h=>h) (λ_=>YieldsG.pure (by rfl) (λw9 _=>by go_simp; try with_reducible rfl)) ?_
   try simp only [aPS]
   refine AH kR (λv hv=>?_)
   have hb:=Below.gr hb hv
   have BX:=Gr.blk hv BX
   have BY:=Gr.blk hv BY
   have BW:=Gr.blk hv BW
   clear hv pc pf
   go_wp2
   refine ⟨⟨hb,BX,BY,Lib.hid (.inr (.inr (.inr (.inr (⟨rfl,rfl,BW⟩)))))⟩,by decide⟩
  ·clear HI
   obtain ⟨s,hsd⟩:=xE (s0+18446744073709551616*s1+340282366920938463463374607431768211456*s2+6277101735386680763835789423207666416102355444464034512896*s3)
   have hf:=hs.out
   have hl:=hlt.out
   have hn:=HF.out
   rw [← hsd] at hf hl hn
   have BS:=BW.eq_ (Bc hf.symm).symm
   have HS:=Lib.hid (And.intro hl hn)
   clear hf hl hn hsd
   go_wp2_with (first | ((with_reducible refine AD (d:=some 24) ?_); refine AB U _ _ U (w.heap.size+2) rfl s _ _ _ BS (AU s) Au U kR ?_) | ((with_reducible refine AE ?_); refine AA U _ _ _ U (w.heap.size+2) (fcs s) U U _ _ BS kR (by rfl) (AG _) ?_; intro w9 hL9 hB9 hK9))
   exact bodyPost_ret (A9 U _ _ (w.heap.size+2) _ _ _ _ U hL9 U Au U kR) rfl ⟨⟨s,c3,HS.out.1,HK.out,HS.out.2,rfl⟩,hb.trans (hB9 _ om)⟩
theorem Vx (w:World) (x y s k:Nat) (hx:x<(2^256)) (hy:y<(2^256)) (hs:s<(2^256)) (he:s+(2^256)*k=x+y) :
  Calls Tryz.prog 163 #[fv x,fv y] w λe w'=>e=.returned (.tuple #[fv s,.int .u64 (k:Int)])∧Below w.heap.size w w':=by
 refine (Ep w x y hx hy).mono ?_
 rintro e w' ⟨⟨s',k',hs',hk',he',rfl⟩,hb⟩
 obtain rfl:k'=k:=om
 obtain rfl:s'=s:=om
 exact ⟨rfl,hb⟩
theorem of_any (w:World) (n:Nat) (hn:n<18446744073709551616):Calls Tryz.prog 54 #[.int .u64 (n:Int)] w λe w'=>e=.returned (fv n)∧Below w.heap.size w w':=by
 rw [F2 n hn]
 go_enter Tryz.func54,Tryz.ntmps54
 go_wp2
 exact bodyPost_ret (results_cell_row U _ _ w.heap.size _ _ (0,0) _ U (heap_alloc_new w _) Au U kR) rfl ⟨rfl,(Below.refl _ _).alloc (Nat.le_refl _) _⟩
theorem E0 (w:World) (x y:Nat) (hx:x<(2^256)) (hy:y<(2^256)):Calls Tryz.prog 100 #[fv x,fv y] w λe w'=>e=.returned (fv (addP x y))∧Below w.heap.size w w':=by
 obtain ⟨p,hp⟩:=xE (x%pM)
 obtain ⟨q,hq⟩:=xE (y%pM)
 obtain ⟨z,hz⟩:=xE (addP x y)
 have lp:p<115792089237316195423570985008687907852837564279074904382605163141518161494337:=by rw [hp]; exact mod_lt_p x
 have lq:q<115792089237316195423570985008687907852837564279074904382605163141518161494337:=by rw [hq]; exact mod_lt_p y
 have hzs:z=(p+q)%pM:=by rw [hz,addP,hp,hq, ← Nat.add_mod]
 obtain ⟨s,k,hs,hk,he⟩:∃ s k:Nat,s<(2^256)∧k≤1∧s+(2^256)*k=p+q:=⟨(p+q)%(2^256),(p+q) / (2^256),by omega,by omega,by omega⟩
 have cx:∀ w,Calls Tryz.prog 127 #[fv x] w λe w'=>e=.returned (fv p)∧Below w.heap.size w w':=by
  intro w; rw [hp]; exact norm_any w x hx
 have cy:∀ w,Calls Tryz.prog 127 #[fv y] w λe w'=>e=.returned (fv q)∧Below w.heap.size w w':=by
  intro w; rw [hq]; exact norm_any w y hy
 have cp:=λw=>Vx w p q s k om om hs he
 have cr:=λw=>Ky w s k z k U hs hk om (by rw [hzs, ← he])
 rw [← hz]
 obtain ⟨x0,x1,x2,x3,fx⟩:=Ae x hx
 obtain ⟨y0,y1,y2,y3,fy⟩:=Ae y hy
 have FX:=Lib.hid fx
 have FY:=Lib.hid fy
 rw [fx,fy]
 clear fx fy hx hy hp hq hz lp lq hzs hs hk he
 go_enter Tryz.func100,Tryz.ntmps100
 go_wp2
 refine AJ (λj=>j == 8) kR ?_
 try simp only [Act.put]
 refine tkw 0 U (YieldsG.loadF (by rfl) _ _ U w.heap.size rfl x _ _ (((Blk.new w _ _).alloc _).alloc _) FX.out Au U kR) ?_
 try simp only [aPS]
 refine tkw 1 U (YieldsG.call (v:=fv p) (by rfl) 127 _ (λw9=>by go_simp; try rfl) (λw9 h9=>cx w9)) ?_
 try simp only [aPS]
 refine tkw 2 U (YieldsG.loadF (by rfl) _ _ U (w.heap.size+1) rfl y _ _ ((AZ w _ _ _).alloc _) FY.out Au U kR) ?_
 try simp only [aPS]
 refine tkw 3 U (YieldsG.call (v:=fv q) (by rfl) 127 _ (λw9=>by go_simp; try rfl) (λw9 h9=>cy w9)) ?_
 try simp only [aPS]
 refine tkw 4 U (YieldsG.call (v:=.tuple #[fv s,.int .u64 (k:Int)]) (by rfl) 163 _ (λw9=>by go_simp; try rfl) (λw9 h9=>cp w9)) ?_
 try simp only [aPS]
 refine tk 5 U ?_
 refine tk 6 U ?_
 try simp only [aPS]
 refine tkw 7 U (YieldsG.call (v:=fv z) (by rfl) 162 _ (λw9=>by go_simp; try rfl) (λw9 h9=>cr w9)) ?_
 try simp only [aPS]
 refine BU 8 U kR (by rfl) _ _ _ U (w.heap.size+2) (fcs z) U U _ _ (Ax w _ _ _ _) kR (by rfl) (AG _) rfl (λw6 h6 w7 hB7 hL7=>?_)
 try simp only [Act.put]
 refine AH kR (λw8 h8=>?_)
 have hfin:=Gr.blk h8 hL7
 have hb9:=(Below.gr (Ac w _ _ _) h6).trans ((hB7 _ om).trans (Below.mono h8 (by have:=hL7.lt; omega)))
 go_wp2
 exact bodyPost_ret (results_cell_row U _ _ (w.heap.size+2) _ _ (0,0) _ U hfin Au U kR) rfl ⟨rfl,hb9⟩
theorem G' (w:World) (x:Nat) (hx:x<(2^256)):Calls Tryz.prog 133 #[fv x] w λe w'=>e=.returned (fv (negP x))∧Below w.heap.size w w':=by
 obtain ⟨o,ho⟩:∃ o,o=115792089237316195423570985008687907852837564279074904382605163141518161494337:=⟨_,rfl⟩
 obtain ⟨p,hp⟩:=xE (x%pM)
 obtain ⟨z,hz⟩:=xE (negP x)
 have lp:p<115792089237316195423570985008687907852837564279074904382605163141518161494337:=by rw [hp]; exact mod_lt_p x
 obtain ⟨s,hs⟩:=xE (o - p)
 have hzs:z=s%pM:=by rw [hz,negP,hs,ho,hp]; rfl
 have co:=λw=>NK w o ho
 have cx:∀ w,Calls Tryz.prog 127 #[fv x] w λe w'=>e=.returned (fv p)∧Below w.heap.size w w':=by
  intro w; rw [hp]; exact norm_any w x hx
 have cm:=λw=>HO w o p s 0 om om om om
 have cz:∀ w,Calls Tryz.prog 127 #[fv s] w λe w'=>e=.returned (fv z)∧Below w.heap.size w w':=by
  intro w; rw [hzs]; exact norm_any w s om
 obtain ⟨x0,x1,x2,x3,fx⟩:=Ae x hx
 have FX:=Lib.hid fx
 rw [fx, ← hz]
 clear fx hx ho hp hz lp hs hzs
 go_enter Tryz.func133,Tryz.ntmps133
 go_wp2
 refine AJ (λj=>j == 8) kR ?_
 try simp only [Act.put]
 refine tkw 0 U (YieldsG.call (v:=fv o) (by rfl) 198 _ (λw9=>by go_simp; try rfl) (λw9 h9=>co w9)) ?_
 try simp only [aPS]
 refine tkw 1 U (YieldsG.loadF (by rfl) _ _ U w.heap.size rfl x _ _ ((Blk.new w _ _).alloc _) FX.out Au U kR) ?_
 try simp only [aPS]
 refine tkw 2 U (YieldsG.call (v:=fv p) (by rfl) 127 _ (λw9=>by go_simp; try rfl) (λw9 h9=>cx w9)) ?_
 try simp only [aPS]
 refine tkw 3 U (YieldsG.call (v:=.tuple #[fv s,.int .u64 ((0:Nat):Int)]) (by rfl) 197 _ (λw9=>by go_simp; try rfl) (λw9 h9=>cm w9)) ?_
 try simp only [aPS]
 refine tk 4 U ?_
 refine tk 5 U ?_
 try simp only [aPS]
 refine Aa 6 U kR (λ_ _ _ h=>h) (λ_=>YieldsG.pure (by rfl) (λw9 _=>by go_simp; try with_reducible rfl)) ?_
 try simp only [aPS]
 refine Al 7 U kR (by rfl) (λw3 h3 K hK=>?_)
 go_simp
 refine hK _ _ (λ_=>BK _ _) ?_
 clear hK K
 try simp only [aPS]
 refine BU 8 U kR (by rfl) _ _ _ U w3.heap.size (fcs s) U U _ _ (Blk.new w3 _ _) kR (by rfl) (AG _) rfl (λw6 h6 w7 hB7 hL7=>?_)
 try simp only [Act.put]
 refine Aa 9 U kR (λ_ _ _ h=>h) (λ_=>YieldsG.pure (by rfl) (λw9 _=>by go_simp; try with_reducible rfl)) ?_
 try simp only [aPS]
 refine AH kR (λw8 h8=>?_)
 have BS:=Gr.blk h8 hL7
 have hsz:w.heap.size+2≤w3.heap.size:=by have:=h3.size; simp at this; omega
 have BR:Blk w8 (w.heap.size+1) 26 _:=Gr.blk h8 (Blk.below (B:=w3.heap.size) (Gr.blk h6 (Blk.alloc (Gr.blk h3 (AZ w _ _ _)) _)) (hB7 _ (Nat.le_refl _)) om)
 have hB:Below w.heap.size w w8:=Below.gr ((Below.gr ((Below.gr (Ad w _ _) h3).alloc om _) h6).trans (hB7 _ om)) h8
 clear h3 h6 hB7 hL7 h8 cm co cx
 go_wp2_with ((with_reducible refine AD (d:=some 12) ?_); refine AB U _ _ U w3.heap.size rfl s _ _ _ BS (AU s) Au U kR ?_)
 refine (cz _).mono ?_
 rintro e w9 ⟨rfl,hb⟩
 have BR9:=Gr.blk hb BR
 have hB9:=Below.gr hB hb
 go_wp2_with ((with_reducible refine AE ?_); refine AA U _ _ _ U (w.heap.size+1) (fcs z) U U _ _ BR9 kR (by rfl) (AG _) ?_; intro wz hL hBz hKz)
 exact bodyPost_ret (results_cell_row U _ _ (w.heap.size+1) _ _ (0,0) _ U hL Au U kR) rfl ⟨rfl,hB9.trans (hBz _ om)⟩
theorem VR (x y:Nat):addP x (negP y)=subP x y:=by
 unfold addP negP subP
 rw [Nat.add_mod_mod]
theorem subF_any (w:World) (x y:Nat) (hx:x<(2^256)) (hy:y<(2^256)):Calls Tryz.prog 64 #[fv x,fv y] w λe w'=>e=.returned (fv (subP x y))∧Below w.heap.size w w':=by
 obtain ⟨g,hg⟩:=xE (negP y)
 obtain ⟨z,hz⟩:=xE (subP x y)
 have cg:∀ w,Calls Tryz.prog 133 #[fv y] w λe w'=>e=.returned (fv g)∧Below w.heap.size w w':=by
  intro w; rw [hg]; exact G' w y hy
 have ca:∀ w,Calls Tryz.prog 100 #[fv x,fv g] w λe w'=>e=.returned (fv z)∧Below w.heap.size w w':=by
  intro w; rw [hz, ← VR, ← hg]; exact E0 w x g hx (by rw [hg]; exact I1 _)
 rw [← hz]
 obtain ⟨x0,x1,x2,x3,fx⟩:=Ae x hx
 obtain ⟨y0,y1,y2,y3,fy⟩:=Ae y hy
 have FX:=Lib.hid fx
 have FY:=Lib.hid fy
 rw [fx,fy]
 clear fx fy hx hy hg hz
 go_enter Tryz.func64,Tryz.ntmps64
 go_wp2
 refine AJ (λj=>j == 4) kR ?_
 try simp only [Act.put]
 refine tkw 0 U (YieldsG.loadF (by rfl) _ _ U w.heap.size rfl x _ _ (((Blk.new w _ _).alloc _).alloc _) FX.out Au U kR) ?_
 try simp only [aPS]
 refine tkw 1 U (YieldsG.loadF (by rfl) _ _ U (w.heap.size+1) rfl y _ _ ((AZ w _ _ _).alloc _) FY.out Au U kR) ?_
 try simp only [aPS]
 refine tkw 2 U (YieldsG.call (v:=fv g) (by rfl) 133 _ (λw9=>by go_simp; try rfl) (λw9 h9=>cg w9)) ?_
 try simp only [aPS]
 refine tkw 3 U (YieldsG.call (v:=fv z) (by rfl) 100 _ (λw9=>by go_simp; try rfl) (λw9 h9=>ca w9)) ?_
 try simp only [aPS]
 refine BU 4 U kR (by rfl) _ _ _ U (w.heap.size+2) (fcs z) U U _ _ (Ax w _ _ _ _) kR (by rfl) (AG _) rfl (λw6 h6 w7 hB7 hL7=>?_)
 try simp only [Act.put]
 refine AH kR (λw8 h8=>?_)
 have hfin:=Gr.blk h8 hL7
 have hb9:=(Below.gr (Ac w _ _ _) h6).trans ((hB7 _ om).trans (Below.mono h8 (by have:=hL7.lt; omega)))
 go_wp2
 exact bodyPost_ret (results_cell_row U _ _ (w.heap.size+2) _ _ (0,0) _ U hfin Au U kR) rfl ⟨rfl,hb9⟩
end Sc
end
section
namespace Cu
open Go.RowKit Sy
theorem Po {P Q R:Pt} {a b:Nat} {i:Bool} {c d:Nat} {j:Bool} {u v:Nat} {k:Bool} (ha:a<K4) (hb:b<K4) (hc:c<K4) (hd:d<K4) (h1:dec a b i=P) (h2:dec c d j=Q) (h3:ptv R=pv u v k) (he:Ec.add AR P Q=R) (w:World):Calls Tryz.prog 91 #[pv a b i,pv c d j] w (Gets w (pv u v k)):=by
 rw [← h3, ← he, ← h1, ← h2]
 exact JB w a b i c d j ha hb hc hd
theorem Fv {P R:Pt} {a b:Nat} {i:Bool} {u v:Nat} {k:Bool} (ha:a<K4) (hb:b<K4) (h1:dec a b i=P) (h3:ptv R=pv u v k) (he:Ec.neg P=R) (w:World):Calls Tryz.prog 92 #[pv a b i] w (Gets w (pv u v k)):=by
 rw [← h3, ← he, ← h1]
 exact L_ w a b i ha hb
theorem setAll_all:∀ (vs:List Value) (o:Nat) (cs:Array Value),o+vs.length=cs.size→BI cs o vs=(cs.toList.take o++vs).toArray
 | [],o,cs,h=>by
  rw [List.append_nil,List.take_of_length_le (by simp at h ⊢; omega)]
  simp [BI]
 | v::r,o,cs,h=>by
  have hlt:o<cs.size:=by simp at h; omega
  rw [BI,setAll_all r (o+1) _ (by simp at h ⊢; omega)]
  congr 1
  rw [Array.toList_setIfInBounds,List.take_set,List.take_succ_eq_append_getElem (by simpa using hlt),List.set_append_right _ _ (by rw [List.length_take]; exact Nat.min_le_left _ _)]
  have:(cs.toList.take o).length=o:=by simp; omega
  simp [this]
theorem FB (cs:Array Value) (l:AF) (h:l.length=cs.size):BI cs 0 (l.map bv).toArray.toList=(l.map bv).toArray:=by
 have:=setAll_all (l.map bv) 0 cs (by simp; omega)
 simpa using this
theorem Cm (l:AF) {n:Nat} (h:l.length=n):(l.map bv).toArray.size=n:=by simp; omega
theorem EZ (l:AF):(l.map bv).toArray.all (·.oneCell')=true:=by simp [bv,Value.oneCell']
def evP (k:Nat):Pt:=Ec.nm AR (k%Sc.pM) bP
theorem PX (k:Nat):Ec.On (evP k):=bP_on.nm fld _
end Cu
end
section
namespace Sc
open Go.RowKit Go.Lib
theorem Bw (W:World) (n m:Nat) (hn:n<(2^256)) (hm:m<(2^256)):(Op.equalIn 10000 26 (fv n) (fv m)).run Tryz.prog W=.ok (decide (n=m)) W:=by
 rw [Do,Do]
 have h:=Ch W 9998 26 24 4 Au B2 (λW=>kZ) (wl n) (wl m) rfl U
 rw [LZ hn hm] at h
 exact h
theorem run_neq_fv (W:World) (n m:Nat) (hn:n<(2^256)) (hm:m<(2^256)):(binOp .neq 26 (fv n) (fv m)).run Tryz.prog W=.ok (.bool (decide (n≠m))) W:=by
 have h:=Bw W n m hn hm
 rw [Do,Do] at h ⊢
 rw [run_neq_struct,h]
 by_cases e:n=m <;> simp [e]
theorem run_eqGuard_fv (op:BinOp) (x y:Operand) (n m:Nat) (W:World):(eqGuard op 26 x y (fv n) (fv m)).run Tryz.prog W=.ok () W:=by
 rw [AU,AU]
 go_simp
end Sc
end
end Go.Proofs.YtgemfpnlnipfnabGreatDoor
