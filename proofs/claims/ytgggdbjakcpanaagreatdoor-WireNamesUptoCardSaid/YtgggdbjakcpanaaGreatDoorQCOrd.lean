import Derived.OrdersHeld
import Derived.Deep.RegionHeld3
import Derived.Deep.MidRow
import Derived.Below
import Derived.KernelRfl
set_option linter.unusedVariables false
set_option linter.unusedSimpArgs false
namespace Go.Proofs.YtgggdbjakcpanaaGreatDoor
section
open Go.RowKit
section
variable {P:Program} {ops:Array Oper} {Q:Exit→Act→World→Prop} {md:Region.Mode} {ex:Nat→Bool}
def Gr (w w':World):Prop:=Below w.heap.size w w'
theorem Gr.refl (w:World):Gr w w:=Below.refl _ _
theorem Gr.trans {a b c:World} (h:Gr a b) (k:Gr b c):Gr a c:=Below.trans h (Below.mono k (Below.size h))
theorem gr_alloc (w:World) (o:Obj):Gr w (w.alloc o):=(Below.refl _ _).alloc (Nat.le_refl _) _
def Gives (P:Program) (s:Sem Next) (v:Value) (w:World):Prop :=
 match s.run P w with
 | .ok (.value u) w'=>u=v∧Gr w w'
 | .ok .skip w'=>v=undef∧Gr w w'
 | .ok (.enter f args) w'=>Calls P f args w' fun e w''=>e=.returned v∧Gr w w''
 | _=>False
def YieldsG (P:Program) (ops:Array Oper) (o:Oper) (v:Value) (a:Act) (w:World):Prop :=
 (Region.wanted o (yielded ops a.tmps)=true∧∀ w1,Gr w w1→Gives P (execOp a.eval o) v w1)∨(Region.wanted o (yielded ops a.tmps)=false∧v=undef)
theorem YieldsG.of_same {o:Oper} {v:Value} {a a':Act} {w:World} (hy:YieldsG P ops o v a w) (he:execOp a'.eval o=execOp a.eval o)
  (hw:Region.wanted o (yielded ops a'.tmps)=Region.wanted o (yielded ops a.tmps)):YieldsG P ops o v a' w:=by
 unfold YieldsG at *
 rw [he,hw]
 exact hy
theorem YieldsG.grow {o:Oper} {v:Value} {a:Act} {w w1:World} (hy:YieldsG P ops o v a w) (hg:Gr w w1):YieldsG P ops o v a w1 :=
 hy.imp (fun ⟨h,k⟩=>⟨h,fun w2 h2=>k w2 (hg.trans h2)⟩) id
theorem YieldsG.wpOp {i:Nat} {o:Oper} {v:Value} {a:Act} (hi:ops[i]? = some o) {K:Act→World→Prop} {w:World} (hy:YieldsG P ops o v a w)
  (h:∀ w',Gr w w'→K (a.put o.dst v) w'):wpOp P ops Q i K a w:=by
 unfold Go.wpOp
 simp only [hi]
 rcases hy with ⟨hw,hv⟩ | ⟨hw,rfl⟩
 ·simp only [hw,if_true]
  refine .inl ?_
  have h0:=hv w (Gr.refl w)
  unfold Gives at h0
  unfold Oper.wp
  generalize (execOp a.eval o).run P w=r at *
  cases r with
  | ok n w' =>
   cases n <;> simp only [Oper.upon] at h0 ⊢
   case value u=>rw [h0.1]; exact h _ h0.2
   case skip=>rw [← h0.1]; exact h _ h0.2
   case enter f args =>
    refine Calls.mono h0 fun e w'' he=>?_
    rw [he.1]
    exact h _ he.2
  | halt x w'=>cases x <;> exact h0.elim
 ·simp only [hw,Bool.false_eq_true,if_false]
  exact h _ (Gr.refl w)
theorem wpOp_putG {j:Nat} {oi oj:Oper} {v:Value} {w0:World} (hj:ops[j]? = some oj) (hap:oi.apart ops oj=true)
  (hsi:∀ cs b,oi.op≠.select cs b) (hsj:∀ cs b,oj.op≠.select cs b)
  (hQ:∀ c a w,Q (.panic c) (a.put oi.dst v) w→Q (.panic c) a w) {K:Act→World→Prop} {a:Act} {w:World}
  (hy:YieldsG P ops oi v a w0) (h:wpOp P ops Q j K (a.put oi.dst v) w) :
  wpOp P ops Q j (fun a' w'=>YieldsG P ops oi v a' w0∧K (a'.put oi.dst v) w') a w:=by
 obtain ⟨h1,h2,h3⟩:=Oper.apart_spec hap
 have keep:∀ (a:Act),YieldsG P ops oi v a w0→∀ u,YieldsG P ops oi v (a.put oj.dst u) w0:=fun a hy u =>
  hy.of_same (execOp_put oi hsi a oj.dst u h3) (wanted_put oi a oj.dst u h3)
 have keepD:∀ d,YieldsG P ops oi v { a with defers:=d::a.defers } w0:=fun d=>hy.of_same rfl rfl
 unfold wpOp at *
 simp only [hj] at *
 rw [wanted_put oj a oi.dst v h1] at h
 split
 ·rename_i hw
  simp only [hw,if_true] at h
  rcases h with h | ⟨hasks,hlets⟩
  case inr=>exact .inr ⟨by unfold Oper.asks at *; rw [execOp_put oj hsj a oi.dst v h1] at hasks; exact hasks,hlets⟩
  refine .inl ?_
  unfold Oper.wp at *
  rw [execOp_put oj hsj a oi.dst v h1] at h
  generalize (execOp a.eval oj).run P w=r at *
  cases r with
  | ok n w' =>
   cases n <;> simp only [Oper.upon] at h ⊢
   case value u=>exact ⟨keep a hy u,by rw [← Act.put_comm a v u h2]; exact h⟩
   case skip=>exact ⟨keep a hy _,by rw [← Act.put_comm a v undef h2]; exact h⟩
   case defer d =>
    refine ⟨keep _ (keepD d) _,?_⟩
    rw [← Act.put_comm _ v undef h2, ← Act.put_defers]
    exact h
   case enter f args =>
    refine Calls.mono h fun e w'' he=>?_
    cases e with
    | returned u=>exact ⟨keep a hy u,by rw [← Act.put_comm a v u h2]; exact he⟩
    | panicked c=>exact hQ _ _ _ he
    | outgrown=>exact he
   case row row args=>exact Rows.mono h fun u w'' he=>⟨keep a hy u,by rw [← Act.put_comm a v u h2]; exact he⟩
  | halt x w' =>
   cases x <;> simp only [Oper.upon] at h ⊢
   case panic u=>exact hQ _ _ _ h
 ·rename_i hw
  simp only [hw] at h
  exact ⟨keep a hy _,by rw [← Act.put_comm a v undef h2]; exact h⟩
def wpAnyG (P:Program) (md:Region.Mode) (ops:Array Oper) (Q:Exit→Act→World→Prop) (ex:Nat→Bool):Nat→Array Bool→Act→World→Prop
 | 0,listed,a,w=>Region.ready md ops listed=[]∧∀ w1,Gr w w1→Q .normal a w1
 | fuel+1,listed,a,w=>∀ w1,Gr w w1 →
  (Region.ready md ops listed=[]→Q .normal a w1) ∧
  ∀ i∈Region.ready md ops listed,wpOp P ops Q i (fun a' w'=>(ex i=false→Gr w1 w')∧wpAnyG P md ops Q ex fuel (listed.setIfInBounds i true) a' w') a w1
theorem wpAny_of_G:∀ (fuel:Nat) (listed:Array Bool) (a:Act) (w:World),wpAnyG P md ops Q ex fuel listed a w→wpAny P md ops Q fuel listed a w
 | 0,_,_,w,h=>⟨h.1,h.2 w (Gr.refl w)⟩
 | fuel+1,_,_,w,h=>⟨(h w (Gr.refl w)).1,fun i hi=>wpOp_mono (fun a' w' h'=>wpAny_of_G fuel _ a' w' h'.2) ((h w (Gr.refl w)).2 i hi)⟩
theorem wpAnyG_grow:∀ (fuel:Nat) (listed:Array Bool) (a:Act) (w w1:World),Gr w w1→wpAnyG P md ops Q ex fuel listed a w→wpAnyG P md ops Q ex fuel listed a w1
 | 0,_,_,_,_,hg,h=>⟨h.1,fun w2 h2=>h.2 w2 (hg.trans h2)⟩
 | _+1,_,_,_,_,hg,h=>fun w2 h2=>h w2 (hg.trans h2)
def waitsB (md:Region.Mode) (ops:Array Oper) (ex:Nat→Bool) (i:Nat):Bool :=
 (List.range ops.size).all fun j=>!ex j || (match ops[j]? with
  | some oj=>oj.after.any fun e=>Region.binds md e && e.on == i
  | none=>true)
theorem waits_spec {i j:Nat} {oj:Oper} (h:waitsB md ops ex i=true) (hj:ops[j]? = some oj) (he:ex j=true):∃ e∈oj.after,Region.binds md e=true∧e.on=i:=by
 unfold waitsB at h
 rw [List.all_eq_true] at h
 have h1:=h j (List.mem_range.2 (Array.getElem?_eq_some_iff.1 hj).1)
 simp only [hj,he,Bool.not_true,Bool.false_or] at h1
 rw [Array.any_eq_true'] at h1
 obtain ⟨e,hm,hb⟩:=h1
 simp only [Bool.and_eq_true,beq_iff_eq] at hb
 exact ⟨e,hm,hb.1,hb.2⟩
theorem wpAnyG_first {i:Nat} {oi:Oper} {v:Value} (hi:ops[i]? = some oi) (hsel:∀ (j:Nat) (o:Oper) cs b,ops[j]? = some o→o.op≠.select cs b)
  (hQ:∀ c a w,Q (.panic c) (a.put oi.dst v) w→Q (.panic c) a w) (hex:waitsB md ops ex i=true) :
  ∀ (fuel:Nat) (listed:Array Bool) (a:Act) (w:World),
   (∀ j oj,ops[j]? = some oj→j≠i→listed.getD j true=false→(∀ e∈oj.after,Region.binds md e=true→e.on≠i)→oi.apart ops oj=true) →
   i∈Region.ready md ops listed→YieldsG P ops oi v a w →
   wpAnyG P md ops Q ex fuel (listed.setIfInBounds i true) (a.put oi.dst v) w→wpAnyG P md ops Q ex (fuel+1) listed a w:=by
 intro fuel
 induction fuel with
 | zero =>
  intro listed a w _ hr hy H w1 hw1
  refine ⟨fun h=>(by rw [h] at hr; cases hr),fun j hj=>?_⟩
  by_cases hji:j=i
  ·subst hji; exact (hy.grow hw1).wpOp hi (fun w' h'=>⟨fun _=>h',wpAnyG_grow _ _ _ _ _ (hw1.trans h') H⟩)
  ·have:=ready_mono hj hji
   rw [H.1] at this
   cases this
 | succ fuel ih =>
  intro listed a w hfree hr hy H w1 hw1
  refine ⟨fun h=>(by rw [h] at hr; cases hr),fun j hj=>?_⟩
  by_cases hji:j=i
  ·subst hji; exact (hy.grow hw1).wpOp hi (fun w' h'=>⟨fun _=>h',wpAnyG_grow _ _ _ _ _ (hw1.trans h') H⟩)
  ·have h1:=(H w1 hw1).2 j (ready_mono hj hji)
   obtain ⟨hjun,oj,hoj,hall⟩:=mem_ready.1 hj
   have hnot:∀ e∈oj.after,Region.binds md e=true→e.on≠i:=fun e he hb heq=>by
    have h1:=hall e he hb
    have h0:=(mem_ready.1 hr).1
    rw [heq] at h1
    rcases Nat.lt_or_ge i listed.size with h' | h'
    ·simp [h'] at h0 h1; rw [h0] at h1; cases h1
    ·simp [Array.getElem?_eq_none h'] at h1
   have hexj:ex j=false:=by
    cases hxj:ex j with
    | false=>rfl
    | true =>
     obtain ⟨e,he,hb,heq⟩:=waits_spec hex hoj hxj
     exact absurd heq (hnot e he hb)
   have h2:=wpOp_putG hoj (hfree j oj hoj hji hjun hnot) (fun cs b=>hsel i oi cs b hi) (fun cs b=>hsel j oj cs b hoj) hQ hy h1
   have hfree':∀ k ok,ops[k]? = some ok→k≠i→(listed.setIfInBounds j true).getD k true=false →
     (∀ e∈ok.after,Region.binds md e=true→e.on≠i)→oi.apart ops ok=true:=fun k ok hk hki hun hno=>by
    refine hfree k ok hk hki ?_ hno
    by_cases hjk:j=k
    ·subst hjk; exact hjun
    ·rw [getD_set_ne true hjk] at hun; exact hun
   refine wpOp_mono (fun a' w' h3=>⟨h3.2.1,ih (listed.setIfInBounds j true) a' w' hfree' (ready_mono hr (Ne.symm hji)) (h3.1.grow (hw1.trans (h3.2.1 hexj))) ?_⟩) h2
   rw [Array.setIfInBounds_comm _ _ hji]
   exact h3.2.2
def canTake (md:Region.Mode) (ops:Array Oper) (listed:Array Bool) (ex:Nat→Bool) (i:Nat):Bool :=
 Region.noSelect ops && Region.free md ops listed i && (Region.ready md ops listed).contains i && waitsB md ops ex i
theorem wpAnyG_take (i:Nat) {oi:Oper} {v:Value} {fuel:Nat} {listed:Array Bool} {a:Act} {w:World} (hi0:ops.toList[i]? = some oi) (hc:canTake md ops listed ex i=true)
  (hQ:∀ c a w,Q (.panic c) (a.put oi.dst v) w→Q (.panic c) a w) (hy:YieldsG P ops oi v a w)
  (h:wpAnyG P md ops Q ex fuel (listed.setIfInBounds i true) (a.put oi.dst v) w):wpAnyG P md ops Q ex (fuel+1) listed a w:=by
 have hi:ops[i]? = some oi:=by simpa using hi0
 unfold canTake at hc
 simp only [Bool.and_eq_true] at hc
 exact wpAnyG_first hi (Region.noSelect_spec hc.1.1.1) hQ hc.2 fuel listed a w (Region.free_spec hi hc.1.1.2) (by simpa using hc.1.2) hy h
theorem wpAnyG_sole (i:Nat) {oi:Oper} {fuel:Nat} {listed:Array Bool} {a:Act} {w:World} (hi0:ops.toList[i]? = some oi) (hr:Region.ready md ops listed=[i])
  (hw:Region.wanted oi (yielded ops a.tmps)=true)
  (h:∀ w1,Gr w w1→∀ K:Act→World→Prop,(∀ a' w',(ex i=false→Gr w1 w')→wpAnyG P md ops Q ex fuel (listed.setIfInBounds i true) a' w'→K a' w')→Oper.wp P oi a w1 K Q) :
  wpAnyG P md ops Q ex (fuel+1) listed a w:=fun w1 hw1 =>
 ⟨fun h0=>(by rw [hr] at h0; cases h0),fun j hj=>by
  rw [hr] at hj
  obtain rfl:j=i:=by simpa using hj
  have hi:ops[j]? = some oi:=by simpa using hi0
  refine wpOp_step hi (fun K' hK=>?_)
  rw [if_pos hw]
  exact h w1 hw1 K' (fun a' w' h1 h2=>hK a' w' ⟨h1,h2⟩)⟩
theorem wpAnyG_done {fuel:Nat} {listed:Array Bool} {a:Act} {w:World} (hr:Region.ready md ops listed=[]) (h:∀ w1,Gr w w1→Q .normal a w1):wpAnyG P md ops Q ex fuel listed a w:=by
 cases fuel with
 | zero=>exact ⟨hr,h⟩
 | succ n=>exact fun w1 hw1=>⟨fun _=>h w1 hw1,fun i hi=>by rw [hr] at hi; cases hi⟩
theorem wp_region_G (ex:Nat→Bool) {id:Nat} {a:Act} {w:World} (hm:P.follows .mixedOrders=true) (h:wpAnyG P .any ops Q ex ops.size (Array.replicate ops.size false) a w):(Code.region id ops true).wp P Q a w :=
 wp_region_any hm (wpAny_of_G _ _ _ _ (wpAnyG_grow _ _ _ w _ ((Below.refl _ _).drew) h))
theorem YieldsG.pure {o:Oper} {v:Value} {a:Act} {w:World} (hw:Region.wanted o (yielded ops a.tmps)=true) (h:∀ w1,Gr w w1→(execOp a.eval o).run P w1=.ok (.value v) w1):YieldsG P ops o v a w :=
 .inl ⟨hw,fun w1 h1=>by unfold Gives; rw [h w1 h1]; exact ⟨rfl,Gr.refl _⟩⟩
theorem YieldsG.skip {o:Oper} {a:Act} {w:World} (hw:Region.wanted o (yielded ops a.tmps)=false):YieldsG P ops o undef a w:=.inr ⟨hw,rfl⟩
theorem YieldsG.load {o:Oper} {a:Act} {w:World} (hw:Region.wanted o (yielded ops a.tmps)=true) (ty:TypeId) (x:Operand) (ho:o.op=.load ty x)
  (b f:Nat) (hx:a.eval x=.pointer (some ⟨b,f,none⟩)) (cs:List Value) (d:TypeDesc) (hb:b<w.heap.size) (hr:w.rangeAt b f cs)
  (hu:P.underlying ty=some d) (hd:d.isRow=true) (hi:(P.info? ty).map (·.size)=some cs.length):YieldsG P ops o (.agg cs.toArray) a w :=
 YieldsG.pure hw fun w1 h1=>by
  unfold execOp
  have hl:=run_loadVar_mid w1 b f ty cs d (fun j v hj=>(Below.cell (p:=⟨b,f+j,none⟩) h1 hb).trans (hr j v hj)) hu hd hi
  simp only [ho,hx,Instr.loadAt,Instr.sureAddr,Sem.run_bind,Sem.run_pure,Result.andThen_ok,hl]
theorem YieldsG.call {o:Oper} {v:Value} {a:Act} {w:World} (hw:Region.wanted o (yielded ops a.tmps)=true) (f:FuncId) (args:Array Value)
  (he:∀ w1,(execOp a.eval o).run P w1=.ok (.enter f args) w1) (h:∀ w1,Gr w w1→Calls P f args w1 fun e w2=>e=.returned v∧Gr w1 w2):YieldsG P ops o v a w :=
 .inl ⟨hw,fun w1 h1=>by unfold Gives; rw [he w1]; exact h w1 h1⟩
end
end
end Go.Proofs.YtgggdbjakcpanaaGreatDoor
