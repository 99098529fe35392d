import Derived.Test.YtgemfpnlnipfnabGreatDoorQVShaSum
import Derived.Test.YtgemfpnlnipfnabGreatDoorQVRefOf
import Derived.OrdersHeld
import Derived.Deep.RegionHeld3
import Derived.Deep.MidRow
import Derived.Below
import Derived.KernelRfl
import Derived.Laws.IdiomStrings
import Derived.Test.YtgemfpnlnipfnabGreatDoorCards
import Derived.Test.YtgemfpnlnipfnabGreatDoorTie
import Derived.Test.YtgemfpnlnipfnabGreatDoorQVShaSpec
import Derived.WalkKit
import Derived.ProofKit
import Derived.OpenShut
import Derived.Deep.DeepHandedRow
import Derived.Lib.LaidTab
import Derived.Test.YtgemfpnlnipfnabGreatDoorQVShaSched
set_option linter.unusedVariables false
set_option linter.unusedSimpArgs false
namespace Go.Proofs.YtgemfpnlnipfnabGreatDoor
section
namespace Sh
open Go.RowKit Sp
end Sh
end
section
namespace Sh
open Go.RowKit Sp
theorem Src.off {w:World} {A:Option Addr} {m:List UInt8} {N:Nat} (h:Src w A m) (hN:w.heap.size≤N):m≠[]→∀ x,A=some x→x.block≠N:=fun hne x hx=>by
 obtain ⟨b',o,he,hlt,_⟩:=h hne
 rw [he] at hx
 injection hx with hx
 subst hx
 show b'≠N
 omega
end Sh
end
section
namespace Sh
open Go.RowKit Sp
end Sh
end
section
section
open Go.RowKit
section
variable {P:Program} {ops:Array Oper} {Q:Exit→Act→World→Prop} {md:Region.Mode} {ex:Nat→Bool}
def Gr (w w':World):Prop:=Below w.heap.size w w'
theorem Gr.refl (w:World):Gr w w:=Below.refl _ _
theorem Gr.trans {a b c:World} (h:Gr a b) (k:Gr b c):Gr a c:=Below.trans h (Below.mono k (Below.size h))
theorem BK (w:World) (o:Obj):Gr w (w.alloc o):=(Below.refl _ _).alloc (Nat.le_refl _) _
def Dq (P:Program) (s:Sem Next) (v:Value) (w:World):Prop :=
 match s.run P w with
 | .ok (.value u) w'=>u=v∧Gr w w'
 | .ok .skip w'=>v=undef∧Gr w w'
 | .ok (.enter f args) w'=>Calls P f args w' fun e w''=>e=.returned v∧Gr w w''
 | _=>False
def YieldsG (P:Program) (ops:Array Oper) (o:Oper) (v:Value) (a:Act) (w:World):Prop :=
 (Region.wanted o (yielded ops a.tmps)=true∧∀ w1,Gr w w1→Dq P (execOp a.eval o) v w1)∨(Region.wanted o (yielded ops a.tmps)=false∧v=undef)
theorem YieldsG.of_same {o:Oper} {v:Value} {a a':Act} {w:World} (hy:YieldsG P ops o v a w) (he:execOp a'.eval o=execOp a.eval o)
  (hw:Region.wanted o (yielded ops a'.tmps)=Region.wanted o (yielded ops a.tmps)):YieldsG P ops o v a' w:=by
 unfold YieldsG at *
 rw [he,hw]
 exact hy
theorem YieldsG.grow {o:Oper} {v:Value} {a:Act} {w w1:World} (hy:YieldsG P ops o v a w) (hg:Gr w w1):YieldsG P ops o v a w1 :=
 hy.imp (fun ⟨h,k⟩=>⟨h,fun w2 h2=>k w2 (hg.trans h2)⟩) id
theorem YieldsG.wpOp {i:Nat} {o:Oper} {v:Value} {a:Act} (hi:ops[i]? = some o) {K:Act→World→Prop} {w:World} (hy:YieldsG P ops o v a w)
  (h:∀ w',Gr w w'→K (a.put o.dst v) w'):wpOp P ops Q i K a w:=by
 unfold Go.wpOp
 simp only [hi]
 rcases hy with ⟨hw,hv⟩ | ⟨hw,rfl⟩
 ·simp only [hw,if_true]
  refine .inl ?_
  have h0:=hv w (Gr.refl w)
  unfold Dq at h0
  unfold Oper.wp
  generalize (execOp a.eval o).run P w=r at *
  cases r with
  | ok n w' =>
   cases n <;> simp only [Oper.upon] at h0 ⊢
   case value u=>rw [h0.1]; exact h _ h0.2
   case skip=>rw [← h0.1]; exact h _ h0.2
   case enter f args =>
    refine Calls.mono h0 fun e w'' he=>?_
    rw [he.1]
    exact h _ he.2
  | halt x w'=>cases x <;> exact h0.elim
 ·simp only [hw,Bool.false_eq_true,if_false]
  exact h _ (Gr.refl w)
theorem Kc {j:Nat} {oi oj:Oper} {v:Value} {w0:World} (hj:ops[j]? = some oj) (hap:oi.apart ops oj=true)
  (hsi:∀ cs b,oi.op≠.select cs b) (hsj:∀ cs b,oj.op≠.select cs b)
  (hQ:∀ c a w,Q (.panic c) (a.put oi.dst v) w→Q (.panic c) a w) {K:Act→World→Prop} {a:Act} {w:World}
  (hy:YieldsG P ops oi v a w0) (h:wpOp P ops Q j K (a.put oi.dst v) w) :
  wpOp P ops Q j (fun a' w'=>YieldsG P ops oi v a' w0∧K (a'.put oi.dst v) w') a w:=by
 obtain ⟨h1,h2,h3⟩:=Oper.apart_spec hap
 have keep:∀ (a:Act),YieldsG P ops oi v a w0→∀ u,YieldsG P ops oi v (a.put oj.dst u) w0:=fun a hy u =>
  hy.of_same (execOp_put oi hsi a oj.dst u h3) (wanted_put oi a oj.dst u h3)
 have keepD:∀ d,YieldsG P ops oi v { a with defers:=d::a.defers } w0:=fun d=>hy.of_same rfl rfl
 unfold wpOp at *
 simp only [hj] at *
 rw [wanted_put oj a oi.dst v h1] at h
 split
 ·rename_i hw
  simp only [hw,if_true] at h
  rcases h with h | ⟨hasks,hlets⟩
  case inr=>exact .inr ⟨by unfold Oper.asks at *; rw [execOp_put oj hsj a oi.dst v h1] at hasks; exact hasks,hlets⟩
  refine .inl ?_
  unfold Oper.wp at *
  rw [execOp_put oj hsj a oi.dst v h1] at h
  generalize (execOp a.eval oj).run P w=r at *
  cases r with
  | ok n w' =>
   cases n <;> simp only [Oper.upon] at h ⊢
   case value u=>exact ⟨keep a hy u,by rw [← Act.put_comm a v u h2]; exact h⟩
   case skip=>exact ⟨keep a hy _,by rw [← Act.put_comm a v undef h2]; exact h⟩
   case defer d =>
    refine ⟨keep _ (keepD d) _,?_⟩
    rw [← Act.put_comm _ v undef h2, ← Act.put_defers]
    exact h
   case enter f args =>
    refine Calls.mono h fun e w'' he=>?_
    cases e with
    | returned u=>exact ⟨keep a hy u,by rw [← Act.put_comm a v u h2]; exact he⟩
    | panicked c=>exact hQ _ _ _ he
    | outgrown=>exact he
   case row row args=>exact Rows.mono h fun u w'' he=>⟨keep a hy u,by rw [← Act.put_comm a v u h2]; exact he⟩
  | halt x w' =>
   cases x <;> simp only [Oper.upon] at h ⊢
   case panic u=>exact hQ _ _ _ h
 ·rename_i hw
  simp only [hw] at h
  exact ⟨keep a hy _,by rw [← Act.put_comm a v undef h2]; exact h⟩
def BD (P:Program) (md:Region.Mode) (ops:Array Oper) (Q:Exit→Act→World→Prop) (ex:Nat→Bool):Nat→Array Bool→Act→World→Prop
 | 0,listed,a,w=>Region.ready md ops listed=[]∧∀ w1,Gr w w1→Q .normal a w1
 | fuel+1,listed,a,w=>∀ w1,Gr w w1 →
  (Region.ready md ops listed=[]→Q .normal a w1) ∧
  ∀ i∈Region.ready md ops listed,wpOp P ops Q i (fun a' w'=>(ex i=false→Gr w1 w')∧BD P md ops Q ex fuel (listed.setIfInBounds i true) a' w') a w1
theorem GZ:∀ (fuel:Nat) (listed:Array Bool) (a:Act) (w:World),BD P md ops Q ex fuel listed a w→wpAny P md ops Q fuel listed a w
 | 0,_,_,w,h=>⟨h.1,h.2 w (Gr.refl w)⟩
 | fuel+1,_,_,w,h=>⟨(h w (Gr.refl w)).1,fun i hi=>wpOp_mono (fun a' w' h'=>GZ fuel _ a' w' h'.2) ((h w (Gr.refl w)).2 i hi)⟩
theorem CL:∀ (fuel:Nat) (listed:Array Bool) (a:Act) (w w1:World),Gr w w1→BD P md ops Q ex fuel listed a w→BD P md ops Q ex fuel listed a w1
 | 0,_,_,_,_,hg,h=>⟨h.1,fun w2 h2=>h.2 w2 (hg.trans h2)⟩
 | _+1,_,_,_,_,hg,h=>fun w2 h2=>h w2 (hg.trans h2)
def Ld (md:Region.Mode) (ops:Array Oper) (ex:Nat→Bool) (i:Nat):Bool :=
 (List.range ops.size).all fun j=>!ex j || (match ops[j]? with
  | some oj=>oj.after.any fun e=>Region.binds md e && e.on == i
  | none=>true)
theorem OV {i j:Nat} {oj:Oper} (h:Ld md ops ex i=true) (hj:ops[j]? = some oj) (he:ex j=true):∃ e∈oj.after,Region.binds md e=true∧e.on=i:=by
 unfold Ld at h
 rw [List.all_eq_true] at h
 have h1:=h j (List.mem_range.2 (Array.getElem?_eq_some_iff.1 hj).1)
 simp only [hj,he,Bool.not_true,Bool.false_or] at h1
 rw [Array.any_eq_true'] at h1
 obtain ⟨e,hm,hb⟩:=h1
 simp only [Bool.and_eq_true,beq_iff_eq] at hb
 exact ⟨e,hm,hb.1,hb.2⟩
theorem LY {i:Nat} {oi:Oper} {v:Value} (hi:ops[i]? = some oi) (hsel:∀ (j:Nat) (o:Oper) cs b,ops[j]? = some o→o.op≠.select cs b)
  (hQ:∀ c a w,Q (.panic c) (a.put oi.dst v) w→Q (.panic c) a w) (hex:Ld md ops ex i=true) :
  ∀ (fuel:Nat) (listed:Array Bool) (a:Act) (w:World),
   (∀ j oj,ops[j]? = some oj→j≠i→listed.getD j true=false→(∀ e∈oj.after,Region.binds md e=true→e.on≠i)→oi.apart ops oj=true) →
   i∈Region.ready md ops listed→YieldsG P ops oi v a w →
   BD P md ops Q ex fuel (listed.setIfInBounds i true) (a.put oi.dst v) w→BD P md ops Q ex (fuel+1) listed a w:=by
 intro fuel
 induction fuel with
 | zero =>
  intro listed a w _ hr hy H w1 hw1
  refine ⟨fun h=>(by rw [h] at hr; cases hr),fun j hj=>?_⟩
  by_cases hji:j=i
  ·subst hji; exact (hy.grow hw1).wpOp hi (fun w' h'=>⟨fun _=>h',CL _ _ _ _ _ (hw1.trans h') H⟩)
  ·have:=ready_mono hj hji
   rw [H.1] at this
   cases this
 | succ fuel ih =>
  intro listed a w hfree hr hy H w1 hw1
  refine ⟨fun h=>(by rw [h] at hr; cases hr),fun j hj=>?_⟩
  by_cases hji:j=i
  ·subst hji; exact (hy.grow hw1).wpOp hi (fun w' h'=>⟨fun _=>h',CL _ _ _ _ _ (hw1.trans h') H⟩)
  ·have h1:=(H w1 hw1).2 j (ready_mono hj hji)
   obtain ⟨hjun,oj,hoj,hall⟩:=mem_ready.1 hj
   have hnot:∀ e∈oj.after,Region.binds md e=true→e.on≠i:=fun e he hb heq=>by
    have h1:=hall e he hb
    have h0:=(mem_ready.1 hr).1
    rw [heq] at h1
    rcases Nat.lt_or_ge i listed.size with h' | h'
    ·simp [h'] at h0 h1; rw [h0] at h1; cases h1
    ·simp [Array.getElem?_eq_none h'] at h1
   have hexj:ex j=false:=by
    cases hxj:ex j with
    | false=>rfl
    | true =>
     obtain ⟨e,he,hb,heq⟩:=OV hex hoj hxj
     exact absurd heq (hnot e he hb)
   have h2:=Kc hoj (hfree j oj hoj hji hjun hnot) (fun cs b=>hsel i oi cs b hi) (fun cs b=>hsel j oj cs b hoj) hQ hy h1
   have hfree':∀ k ok,ops[k]? = some ok→k≠i→(listed.setIfInBounds j true).getD k true=false →
     (∀ e∈ok.after,Region.binds md e=true→e.on≠i)→oi.apart ops ok=true:=fun k ok hk hki hun hno=>by
    refine hfree k ok hk hki ?_ hno
    by_cases hjk:j=k
    ·subst hjk; exact hjun
    ·rw [getD_set_ne true hjk] at hun; exact hun
   refine wpOp_mono (fun a' w' h3=>⟨h3.2.1,ih (listed.setIfInBounds j true) a' w' hfree' (ready_mono hr (Ne.symm hji)) (h3.1.grow (hw1.trans (h3.2.1 hexj))) ?_⟩) h2
   rw [Array.setIfInBounds_comm _ _ hji]
   exact h3.2.2
def Da (md:Region.Mode) (ops:Array Oper) (listed:Array Bool) (ex:Nat→Bool) (i:Nat):Bool :=
 Region.noSelect ops && Region.free md ops listed i && (Region.ready md ops listed).contains i && Ld md ops ex i
theorem EO (i:Nat) {oi:Oper} {v:Value} {fuel:Nat} {listed:Array Bool} {a:Act} {w:World} (hi0:ops.toList[i]? = some oi) (hc:Da md ops listed ex i=true)
  (hQ:∀ c a w,Q (.panic c) (a.put oi.dst v) w→Q (.panic c) a w) (hy:YieldsG P ops oi v a w)
  (h:BD P md ops Q ex fuel (listed.setIfInBounds i true) (a.put oi.dst v) w):BD P md ops Q ex (fuel+1) listed a w:=by
 have hi:ops[i]? = some oi:=by simpa using hi0
 unfold Da at hc
 simp only [Bool.and_eq_true] at hc
 exact LY hi (Region.noSelect_spec hc.1.1.1) hQ hc.2 fuel listed a w (Region.free_spec hi hc.1.1.2) (by simpa using hc.1.2) hy h
theorem Al (i:Nat) {oi:Oper} {fuel:Nat} {listed:Array Bool} {a:Act} {w:World} (hi0:ops.toList[i]? = some oi) (hr:Region.ready md ops listed=[i])
  (hw:Region.wanted oi (yielded ops a.tmps)=true)
  (h:∀ w1,Gr w w1→∀ K:Act→World→Prop,(∀ a' w',(ex i=false→Gr w1 w')→BD P md ops Q ex fuel (listed.setIfInBounds i true) a' w'→K a' w')→Oper.wp P oi a w1 K Q) :
  BD P md ops Q ex (fuel+1) listed a w:=fun w1 hw1 =>
 ⟨fun h0=>(by rw [hr] at h0; cases h0),fun j hj=>by
  rw [hr] at hj
  obtain rfl:j=i:=by simpa using hj
  have hi:ops[j]? = some oi:=by simpa using hi0
  refine wpOp_step hi (fun K' hK=>?_)
  rw [if_pos hw]
  exact h w1 hw1 K' (fun a' w' h1 h2=>hK a' w' ⟨h1,h2⟩)⟩
theorem AH {fuel:Nat} {listed:Array Bool} {a:Act} {w:World} (hr:Region.ready md ops listed=[]) (h:∀ w1,Gr w w1→Q .normal a w1):BD P md ops Q ex fuel listed a w:=by
 cases fuel with
 | zero=>exact ⟨hr,h⟩
 | succ n=>exact fun w1 hw1=>⟨fun _=>h w1 hw1,fun i hi=>by rw [hr] at hi; cases hi⟩
theorem AJ (ex:Nat→Bool) {id:Nat} {a:Act} {w:World} (hm:P.follows .mixedOrders=true) (h:BD P .any ops Q ex ops.size (Array.replicate ops.size false) a w):(Code.region id ops true).wp P Q a w :=
 wp_region_any hm (GZ _ _ _ _ (CL _ _ _ w _ ((Below.refl _ _).drew) h))
theorem YieldsG.pure {o:Oper} {v:Value} {a:Act} {w:World} (hw:Region.wanted o (yielded ops a.tmps)=true) (h:∀ w1,Gr w w1→(execOp a.eval o).run P w1=.ok (.value v) w1):YieldsG P ops o v a w :=
 .inl ⟨hw,fun w1 h1=>by unfold Dq; rw [h w1 h1]; exact ⟨rfl,Gr.refl _⟩⟩
theorem YieldsG.skip {o:Oper} {a:Act} {w:World} (hw:Region.wanted o (yielded ops a.tmps)=false):YieldsG P ops o undef a w:=.inr ⟨hw,rfl⟩
theorem YieldsG.load {o:Oper} {a:Act} {w:World} (hw:Region.wanted o (yielded ops a.tmps)=true) (ty:TypeId) (x:Operand) (ho:o.op=.load ty x)
  (b f:Nat) (hx:a.eval x=.pointer (some ⟨b,f,none⟩)) (cs:List Value) (d:TypeDesc) (hb:b<w.heap.size) (hr:w.rangeAt b f cs)
  (hu:P.underlying ty=some d) (hd:d.isRow=true) (hi:(P.info? ty).map (·.size)=some cs.length):YieldsG P ops o (.agg cs.toArray) a w :=
 YieldsG.pure hw fun w1 h1=>by
  unfold execOp
  have hl:=run_loadVar_mid w1 b f ty cs d (fun j v hj=>(Below.cell (p:=⟨b,f+j,none⟩) h1 hb).trans (hr j v hj)) hu hd hi
  simp only [ho,hx,Instr.loadAt,Instr.sureAddr,Sem.run_bind,Sem.run_pure,Result.andThen_ok,hl]
theorem YieldsG.call {o:Oper} {v:Value} {a:Act} {w:World} (hw:Region.wanted o (yielded ops a.tmps)=true) (f:FuncId) (args:Array Value)
  (he:∀ w1,(execOp a.eval o).run P w1=.ok (.enter f args) w1) (h:∀ w1,Gr w w1→Calls P f args w1 fun e w2=>e=.returned v∧Gr w1 w2):YieldsG P ops o v a w :=
 .inl ⟨hw,fun w1 h1=>by unfold Dq; rw [he w1]; exact h w1 h1⟩
end
end
end
section
namespace Sh
open Go.RowKit Sp
structure Tx where
  A:Option Addr
  l:List UInt8
  c:Nat
def Tx.val (x:Tx):Value:=.slice x.A x.l.length x.c
def Tx.ok (w:World) (x:Tx):Prop:=Src w x.A x.l∧x.l.length≤x.c∧x.c≤9223372036854775807
def XL (w:World) (b o:Nat) (ts:List Tx):Prop:=∀ j x,ts[j]? = some x→w.cell? ⟨b,o+j,none⟩=some x.val∧x.ok w
def Texts (w:World) (T:Option Addr) (ts:List Tx):Prop:=ts≠[]→∃ b o,T=some ⟨b,o,none⟩∧b<w.heap.size∧XL w b o ts
def cat (ts:List Tx):List UInt8:=ts.flatMap (·.l)
theorem Tx.ok.below {w w':World} {x:Tx} (h:x.ok w) (hb:Below w.heap.size w w'):x.ok w':=⟨h.1.below hb,h.2⟩
theorem Texts.below {w w':World} {T:Option Addr} {ts:List Tx} (h:Texts w T ts) (hb:Below w.heap.size w w'):Texts w' T ts:=fun hne=>by
  obtain ⟨b,o,e,hlt,hc⟩:=h hne
  refine ⟨b,o,e,Nat.lt_of_lt_of_le hlt hb.size,fun j x hx=>⟨(hb.cell (p:=⟨b,o+j,none⟩) hlt).trans (hc j x hx).1,(hc j x hx).2.below hb⟩⟩
theorem F7 (ts:List Tx) (k:Nat) (x:Tx) (h:ts[k]? = some x):cat (ts.take (k+1))=cat (ts.take k)++x.l:=by
  have hk:k<ts.length:=(List.getElem?_eq_some_iff.1 h).1
  have he:ts[k]=x:=(List.getElem?_eq_some_iff.1 h).2
  rw [List.take_succ_eq_append_getElem hk,he]
  simp [cat]
theorem Ul (ts:List Tx) (k:Nat):(cat (ts.take k)).length≤(cat ts).length:=by
  conv=>rhs; rw [← List.take_append_drop k ts]
  simp only [cat,List.flatMap_append,List.length_append]
  omega
theorem Hp (ts:List Tx) (k:Nat) (x:Tx) (h:ts[k]? = some x):(cat (ts.take k)).length+x.l.length≤(cat ts).length:=by
  have:=Ul ts (k+1)
  rw [F7 ts k x h,List.length_append] at this
  exact this
theorem DC {P : Program} {w : World} {ops : Array Oper} {rest : List Oper} {o : Oper} {a : Act} {Q : Exit → Act → World → Prop} (hgd : o.guard = none) (x : Operand) (src dst e : TypeId)
    (ho:o.op=.convert src dst x) (s:ByteArray) (hx:a.eval x=.string s) (hs:P.underlying src=some .string) (hd:P.underlying dst=some (.slice e)) (he:P.underlying e=some (.int .u8))
    (N:Nat) (hN:w.heap.size=N) (m:List UInt8) (hm:m=s.data.toList) (hsz:m.length≤9223372036854775807)
    (h:∀ w' c,Src w' (some ⟨N,0,none⟩) m→Below N w w'→N<w'.heap.size→m.length≤c→c≤9223372036854775807→wpList P ops Q rest (a.put o.dst (.slice (some ⟨N,0,none⟩) m.length c)) w') :
    wpList P ops Q (o::rest) a w:=by
  subst hN
  refine wpList_plain hgd fun _ hK=>?_
  have hrun:=run_bytes_of_string (P:=P) w src dst e s hs hd he
  have hl:m.length=s.size:=by rw [hm]; simp
  rw [← hl] at hrun
  unfold Oper.wp
  simp only [execOp,ho,hx,Sem.run_bind,hrun,Result.andThen_ok,Sem.run_pure]
  refine hK _ _ (h _ _ (fun _=>⟨w.heap.size,0,rfl,by simp,fun j u hu=>?_⟩) ((((Below.refl _ _).drew).alloc (Nat.le_refl _) _)) (by simp) (grownCap_ge _ _ _ _) (by have:=grownCap_le_maxLen w m.length 0 e (by simpa [maxLen] using hsz); simpa [maxLen] using this))
  rw [Nat.zero_add]
  refine (cell_of_row _ _ j _ e _ (heap_alloc_new w.drew _)).trans ?_
  rw [hm] at hu
  have hu':s.data[j]? = some u:=by simpa using hu
  have hj2:j<s.size:=(Array.getElem?_eq_some_iff.1 hu').1
  simp [bytesRow,Array.getElem?_append,hj2,bv]
  rw [(Array.getElem?_eq_some_iff.1 hu').2]
def taggedS (name m:List UInt8):List UInt8:=sum (sum name++sum name++m)
set_option maxHeartbeats 2000000 in
set_option maxRecDepth 100000 in
theorem tagged_any (w : World) (s : ByteArray) (T : Option Addr) (ts : List Tx) (ct : Nat) (hT : Texts w T ts) (ht : TabAt w 1) (hs : s.size ≤ 1000000000) (hm : (cat ts).length ≤ 1000000000) (hn : ts.length ≤ 1000000000) :
    Calls Tryz.prog 63 #[.string s,.slice T ts.length ct] w fun e w'=>e=.returned (dv (taggedS s.data.toList (cat ts)))∧Below w.heap.size w w':=by
  have HT:=Lib.hid hT
  have HC:=Lib.hid ht
  have htl:=ht.lt
  clear hT ht
  have hsl:=RH
  obtain ⟨nm,hnm⟩:∃ nm,nm=s.data.toList:=⟨_,rfl⟩
  have hnl:nm.length=s.size:=by rw [hnm]; simp
  have hnl2:nm.length≤1000000000:=by rw [hnl]; exact hs
  have HN:=Lib.hid hnm
  have hsz:nm.length≤9223372036854775807:=by omega
  clear hnl hnm
  go_enter Tryz.func63,Tryz.ntmps63
  go_wp2_with (refine DC rfl (.tmp 9) 9 29 5 rfl s rfl Tryz.underlying9 Tryz.underlying29 Tryz.underlying5 (w.heap.size + 1) (by simp) nm HN.out hsz ?_
               intro w1 c1 hs1 hb1 hl1 hc1 hc2
               have hr:=(Blk.new w 23 _).below hb1 (Nat.lt_succ_self _)
               have hb:=(((Below.refl w.heap.size w).alloc (Nat.le_refl _) _).trans (hb1.mono (Nat.le_succ _)))
               clear hb1)
  refine (of_any w1 _ nm c1 hs1 (HC.out.below hb htl) hc1 hc2 (by omega)).mono ?_
  rintro e w2 ⟨rfl,hb2⟩
  have hr:=hr.below hb2 hr.lt
  have hb:=hb.trans (hb2.mono hb.size)
  clear hb2 hs1 hl1
  obtain ⟨d,hd⟩:∃ d,d=sum nm:=⟨_,rfl⟩
  have hdl:d.length=32:=by rw [hd,sum_length]
  have hd1:(d.map bv).toArray.all (·.oneCell')=true:=by rw [hd]; exact G0 nm
  have hdi:(Tryz.prog.info? 23).map (·.size)=some (d.map bv).toArray.size:=by rw [hd]; exact Cz nm
  have hds:(d.map bv).toArray.size=32:=by rw [List.size_toArray,List.length_map,hdl]
  rw [← hd]
  have HD:=Lib.hid (And.intro hd (And.intro hdl (And.intro hd1 (And.intro hdi hds))))
  clear hd hdl hd1 hdi hds
  unfold dv
  go_wp2_with (refine Bu rfl 23 (.tmp 5) (.tmp 11) rfl _ _ _ rfl rfl HD.out.2.2.2.1 (by rw [HD.out.2.2.2.2]; rfl) HD.out.2.2.1 ?_
               intro w3 hd3 hb3 hz3
               have hN2:w.heap.size<w2.heap.size:=hr.lt
               have hr:=hr.below hb3 hN2
               have hb:=hb.trans (hb3.mono hb.size)
               clear hb3 hz3)
  have hN3:w2.heap.size<w3.heap.size:=hd3.lt
  refine (Tk _ w3.heap.size rfl).mono ?_
  rintro e w4 ⟨rfl,hb4,hh,hl4⟩
  have hd4:=hd3.below hb4 hN3
  have hr:=hr.below hb4 hr.lt
  have hb:=hb.trans (hb4.mono hb.size)
  clear hb4 hd3
  go_wp2_with fail
  have hw:=El w4 w3.heap.size [] d (some ⟨w2.heap.size,0,none⟩) 32 hh (Src.of_blk hd4) (fun _ x hx=>by injection hx with hx; subst hx; show w2.heap.size≠_; omega) (HC.out.below hb htl) (by omega) (by rw [HD.out.2.1]; exact Nat.le_refl _) (by omega) (by rw [HD.out.2.1]; simp)
  rw [HD.out.2.1] at hw
  refine hw.mono ?_
  clear hw
  rintro e w5 ⟨rfl,ho5,hh⟩
  have hd5:=hd4.grown ho5 (fun e=>by injection e; omega)
  have hr:=hr.grown ho5 (fun e=>by injection e; omega)
  have hb:=hb.trans (Cb ho5 hb.size (by omega))
  clear ho5 hd4
  go_wp2_with fail
  have hw:=El w5 w3.heap.size d d (some ⟨w2.heap.size,0,none⟩) 32 (by simpa using hh) (Src.of_blk hd5) (fun _ x hx=>by injection hx with hx; subst hx; show w2.heap.size≠_; omega) (HC.out.below hb htl) (by omega) (by rw [HD.out.2.1]; exact Nat.le_refl _) (by omega) (by rw [HD.out.2.1]; simp)
  rw [HD.out.2.1] at hw
  refine hw.mono ?_
  clear hw hh
  rintro e w6 ⟨rfl,ho6,hh⟩
  have hr:=hr.grown ho6 (fun e=>by injection e; omega)
  have hb:=hb.trans (Cb ho6 hb.size (by omega))
  clear ho6 hd5
  go_wp2
  go_loopw [21] (fun i wr=>∃ k:Nat,k≤ts.length∧i=.int .i64 k∧HashIs wr w3.heap.size (d++d++cat (ts.take k))∧Below w.heap.size w wr∧Blk wr w.heap.size 23 _)
    (fun i _=>ts.length - (intOf i).toNat)
  case atStart=>exact ⟨0,Nat.zero_le _,rfl,by simpa [cat] using hh,hb,hr⟩
  case round =>
    clear hr hb hh
    obtain ⟨k,hk,rfl,hh,hb,hr⟩:=hrel
    by_cases hlt:k<ts.length
    · obtain ⟨x,hx⟩:∃ x,ts[k]? = some x:=⟨ts[k],List.getElem?_eq_getElem hlt⟩
      obtain ⟨b,o,rfl,hbl,htx⟩:=HT.out (fun e=>by rw [e] at hlt; exact absurd hlt (Nat.not_lt_zero _))
      have hc:wr.cell? ⟨b,o+k,none⟩=some (.slice x.A x.l.length x.c):=(hb.cell (p:=⟨b,o+k,none⟩) hbl).trans (htx k x hx).1
      have hoff:=(htx k x hx).2.1.off (N:=w3.heap.size) (by omega)
      have hok:=(htx k x hx).2.below hb
      have hlx:=Hp ts k x hx
      have hlc:=hok.2.1
      have hcm:=hok.2.2
      have HX:=Lib.hid (And.intro hx (And.intro hoff (And.intro hok hlx)))
      clear hx htx hok hlx hoff
      go_wp2_with fail
      refine (El wr w3.heap.size _ x.l x.A x.c hh HX.out.2.2.1.1 HX.out.2.1 (HC.out.below hb htl) (by omega) hlc hcm (by have:=HX.out.2.2.2; simp only [List.length_append,HD.out.2.1]; omega)).mono ?_
      rintro e w7 ⟨rfl,ho7,hh7⟩
      have hr7:=hr.grown ho7 (fun e=>by injection e; omega)
      have hb7:=hb.trans (Cb ho7 hb.size (by omega))
      clear ho7
      go_wp2
      go_roundw
      case rel=>exact ⟨k+1,by omega,by go_num,by rw [F7 ts k x HX.out.1, ← List.append_assoc]; exact hh7,hb7,hr7⟩
      case measure=>simp [intOf]; omega
    · obtain rfl:k=ts.length:=by omega
      rw [List.take_length] at hh
      obtain ⟨m,hme⟩:∃ m,m=d++d++cat ts:=⟨_,rfl⟩
      have hml:m.length≤1000000064:=by rw [hme,List.length_append,List.length_append,HD.out.2.1]; omega
      rw [← hme] at hh
      have HE:=Lib.hid hme
      clear hme hlt
      go_wp2_with fail
      refine (Iu wr w3.heap.size m hh (HC.out.below hb htl) (by omega)).mono ?_
      rintro e w7 ⟨rfl,hb7⟩
      have hr:=hr.below hb7 hr.lt
      have hb:=hb.trans (hb7.mono hb.size)
      clear hb7 hh
      unfold dv
      go_wp2_with (refine wpList_store_row rfl 23 (.tmp 4) (.tmp 30) rfl w.heap.size _ rfl rfl 23 _ hr (Cz m) (by rw [Fi]; rfl) (G0 m) ?_)
      have hfin:sum m=taggedS s.data.toList (cat ts):=by rw [HE.out,HD.out.1,HN.out]; rfl
      exact bodyPost_ret (results_cell_row rfl _ _ w.heap.size 23 _ (0,0) _ rfl (hr.setRow _) Tryz.underlying23 rfl (Cz m)) rfl ⟨by rw [hfin]; rfl,Bk hb (Nat.le_refl _) _⟩
end Sh
end
section
namespace Sh
open Go.RowKit Sp
set_option maxHeartbeats 4000000 in
set_option maxRecDepth 100000 in
theorem taggedR_any (w : World) (s : ByteArray) (T : Option Addr) (ts : List Tx) (ct : Nat) (hT : Texts w T ts) (ht : TabAt w 0) (hs : s.size ≤ 1000000000) (hm : (cat ts).length ≤ 1000000000) (hn : ts.length ≤ 1000000000) :
    Calls Tryz.prog 25 #[.string s,.slice T ts.length ct] w fun e w'=>e=.returned (dv (taggedS s.data.toList (cat ts)))∧Below w.heap.size w w':=by
  have HT:=Lib.hid hT
  have HC:=Lib.hid ht
  have htl:=ht.lt
  clear hT ht
  obtain ⟨nm,hnm⟩:∃ nm,nm=s.data.toList:=⟨_,rfl⟩
  have hnl:nm.length=s.size:=by rw [hnm]; simp
  have hnl2:nm.length≤1000000000:=by rw [hnl]; exact hs
  have HN:=Lib.hid hnm
  have HM:=Lib.hid hm
  have hsz:nm.length≤9223372036854775807:=by omega
  clear hnl hm hnm
  go_enter Tryz.func25,Tryz.ntmps25
  go_wp2_with (first
    | (refine DC rfl (.tmp 8) 9 29 5 rfl s rfl Tryz.underlying9 Tryz.underlying29 Tryz.underlying5 (w.heap.size + 1) (by simp) nm HN.out hsz ?_
       intro w1 c1 hs1 hb1 hl1 hc1 hc2
       have hr:=(Blk.new w 23 _).below hb1 (Nat.lt_succ_self _)
       have hb:=(((Below.refl w.heap.size w).alloc (Nat.le_refl _) _).trans (hb1.mono (Nat.le_succ _)))
       clear hb1))
  refine (QR w1 _ nm c1 hs1 (by omega) (HC.out.below hb htl)).mono ?_
  rintro e w2 ⟨rfl,hb2⟩
  have hr:=hr.below hb2 hr.lt
  have hb:=hb.trans (hb2.mono hb.size)
  clear hb2 hs1 hl1
  obtain ⟨d,hd⟩:∃ d,d=sum nm:=⟨_,rfl⟩
  have hdl:d.length=32:=by rw [hd,sum_length]
  rw [← hd]
  have HD:=Lib.hid (And.intro hd hdl)
  clear hd
  unfold dv
  go_wp2_with fail
  refine (textR_any w2 d hdl).mono ?_
  rintro e w3 ⟨g3,cap3,rfl,hown3,hgl3,hb3⟩
  have hr:=hr.below hb3 hr.lt
  have hb:=hb.trans (hb3.mono hb.size)
  have hs3:=Lib.hid (hown3.src hgl3)
  have hcap:=hown3.cap
  rw [HD.out.2] at hcap
  have hrl:=hr.lt
  clear hb3 hown3 hdl
  go_wp2_with (first
    | (at_builtin
       refine A5 rfl (.tmp 12) (.tmp 13) rfl w3.heap.size _ [] rfl (OwnB.lit w3 _ (Nat.le_refl _)) (some ⟨g3,0,none⟩) d cap3 (by rw [HD.out.2]; rfl) (hs3.out.below ((Below.refl _ _).alloc (Nat.le_refl _) _)) (by rw [HD.out.2]; simp) (by simp) ?_
       intro v4 w4 hv4 hg4
       have b4:=Ct ((Below.refl w3.heap.size w3).alloc (Nat.le_refl _) (.cells #[] 5)) (OwnB.lit w3 _ (Nat.le_refl _)) hg4 (Nat.le_refl _) (by simp)
       clear hg4)
    | (at_builtin
       refine A5 rfl (.tmp 15) (.tmp 16) rfl w3.heap.size v4 d rfl (OwnB.mk (l:=d) (by simpa using hv4)) (some ⟨g3,0,none⟩) d cap3 (by rw [HD.out.2]; rfl) (hs3.out.below b4) (by rw [HD.out.2]; omega) b4.size ?_
       intro v5 w5 hv5 hg5
       have b5:=Ct b4 (OwnB.mk (l:=d) (by simpa using hv4)) hg5 (Nat.le_refl _) b4.size
       clear hg5 hv4
       have hr5:=hr.below b5 hrl
       have hb5:=hb.trans (b5.mono hb.size)
       have hz5:=b5.size
       clear b4 b5))
  go_loopw [6,7] (fun v i wr=>∃ (k:Nat) (v0:Value),k≤ts.length∧v0=v∧i=.int .i64 k∧OwnB wr w3.heap.size v0 (d++d++cat (ts.take k))∧Below w.heap.size w wr∧Blk wr w.heap.size 23 _∧w3.heap.size≤wr.heap.size)
    (fun _ i _=>ts.length - (intOf i).toNat)
  case atStart=>exact ⟨0,_,Nat.zero_le _,rfl,rfl,by simpa [cat] using hv5,hb5,hr5,hz5⟩
  case round =>
    clear hr5 hb5 hz5 hv5 hr hb
    obtain ⟨k,v0,hk,rfl,rfl,hown,hb,hr,hz⟩:=hrel
    by_cases hlt:k<ts.length
    · obtain ⟨x, hx⟩ : ∃ x, ts[k]? = some x := ⟨ts[k], List.getElem?_eq_getElem hlt⟩
      obtain ⟨b,o,rfl,hbl,htx⟩:=HT.out (fun e=>by rw [e] at hlt; exact absurd hlt (Nat.not_lt_zero _))
      have hc:wr.cell? ⟨b,o+k,none⟩=some (.slice x.A x.l.length x.c):=(hb.cell (p:=⟨b,o+k,none⟩) hbl).trans (htx k x hx).1
      have hok:=(htx k x hx).2.below hb
      have hlx:=Hp ts k x hx
      have hown1:=hown
      have HX:=Lib.hid (And.intro hx (And.intro htx (And.intro hok hlx)))
      clear hx htx hok hlx
      go_wp2_with (at_builtin
                   refine A5 rfl (.tmp 24) (.tmp 28) rfl w3.heap.size v0 _ rfl hown x.A x.l x.c rfl HX.out.2.2.1.1 (by have:=HX.out.2.2.2; have:=HM.out; simp only [List.length_append,HD.out.2]; omega) hz ?_
                   intro v6 w6 hv6 hg6
                   have b6:=Ct (Below.refl w3.heap.size wr) hown hg6 (Nat.le_refl _) hz
                   have hr6:=hr.below b6 hrl
                   have hb6:=hb.trans (b6.mono (Nat.le_of_lt hrl))
                   have hz6:=Nat.le_trans hz b6.size
                   clear hg6 b6)
      go_roundw
      case rel=>exact ⟨k+1,v6,by omega,rfl,by go_num,by rw [F7 ts k x HX.out.1, ← List.append_assoc]; exact hv6,hb6,hr6,hz6⟩
      case measure=>simp [intOf]; omega
    · obtain rfl:k=ts.length:=by omega
      rw [List.take_length] at hown
      obtain ⟨m,hme⟩:∃ m,m=d++d++cat ts:=⟨_,rfl⟩
      have hml:m.length≤1000000064:=by have:=HM.out; rw [hme,List.length_append,List.length_append,HD.out.2]; omega
      rw [← hme] at hown
      obtain ⟨A,cap,rfl,hsA,hcA,hmA⟩:=hown.any
      have HE:=Lib.hid hme
      have HS:=Lib.hid hsA
      clear hme hsA hown hlt
      go_wp2_with fail
      refine (QR wr A m cap HS.out (by omega) (HC.out.below hb htl)).mono ?_
      rintro e w7 ⟨rfl,hb7⟩
      have hr:=hr.below hb7 hr.lt
      have hb:=hb.trans (hb7.mono hb.size)
      clear hb7
      unfold dv
      go_wp2_with (refine wpList_store_row rfl 23 (.tmp 4) (.tmp 31) rfl w.heap.size _ rfl rfl 23 _ hr (Cz m) (by rw [Fi]; rfl) (G0 m) ?_)
      have hfin:sum m=taggedS s.data.toList (cat ts):=by rw [HE.out,HD.out.1,HN.out]; rfl
      exact bodyPost_ret (results_cell_row rfl _ _ w.heap.size 23 _ (0,0) _ rfl (hr.setRow _) Tryz.underlying23 rfl (Cz m)) rfl ⟨by rw [hfin]; rfl,Bk hb (Nat.le_refl _) _⟩
end Sh
end
section
namespace Sh
open Go.ChangeShapes Go.WideShapes Go.ChangeAt Go.RowKit
section
variable {H:Type} {enc:TypeId×Value→H} {P:Program}
theorem GS (hl:laidOutB P=true) {W W':World} (hb:Below W.heap.size W W'):∀ (ts:List TypeId) (vs:List Value) (ds:List (DataW H)) (ps:List MemPlace),
  (∀ t∈ts,P.readableRec t=true∧t<P.types.size)→DataW.TrodAll enc P W 0 (fun _=>true) true ts vs ds ps→(∀ p∈ps,p.block<W.heap.size) →
  ∀ sp:Nat→Bool,(∀ p∈ps,sp p.block=true)→DataW.TrodAll enc P W' 0 sp true ts vs ds ps
 | [],vs,ds,ps,_,h,_,_,_=>by
  obtain ⟨rfl,rfl,rfl⟩:=trodAll_nil h
  exact trodAll_mk0
 | t::ts,vs,ds,ps,hr,h,hlt,sp,hs=>by
  obtain ⟨v,vs',d,ds',p,q,rfl,rfl,rfl,h0,h1⟩:=trodAll_cons h
  have hr0:=hr t (by simp)
  exact trodAll_cons_mk (WideElems.Trod_stays hl hr0.1 hr0.2 h0 (fun x hx=>hb.same (hlt x (by simp [hx]))) (fun x hx=>hs x (by simp [hx])))
   (GS hl hb ts vs' ds' q (fun t ht=>hr t (by simp [ht])) h1 (fun x hx=>hlt x (by simp [hx])) sp (fun x hx=>hs x (by simp [hx])))
theorem law_post {f:Func} {s:ChangeSpec} {apart fresh handsOn again:Bool} {W W':World} {args:Array Value} {ds gs:List (DataW H)} {before:List MemPlace} {tb:TypeId}
  (hl:laidOutB P=true) (hr:∀ t∈f.params.toList,P.readableRec t=true∧t<P.types.size)
  (hW:DataW.Whole enc P f.params.toList s.vars apart W args.toList ds gs before) (hv:s.vars=[]) (hrt:f.resultTypes=#[tb]) (htb:P.underlying tb=some .bool)
  (hres:(s.fn H (ds++gs)).results=[.lit (.bool true)]) (hargs:(s.fn H (ds++gs)).args=ds) (hvars:(s.fn H (ds++gs)).vars=[])
  (hb:Below W.heap.size W W'):s.post enc P f apart fresh handsOn again W args (.bool true) W':=by
 have hlt:∀ p∈before,p.block<W.heap.size:=fun p hp=>hW.lt p hp
 have hW':=hW
 obtain ⟨p,q,hA,hV,rfl,hz,hn⟩:=hW
 rw [hv] at hV
 obtain ⟨rfl,rfl⟩:=trodVars_none hV
 have hltp:∀ x∈p,x.block<W.heap.size:=fun x hx=>hlt x (by simp [hx])
 have ha:=GS hl hb f.params.toList args.toList ds p hr hA hltp
 have hrs:∀ (b:Nat) (sp:Nat→Bool) (hd:Bool),DataW.TrodAll enc P W' b sp hd f.resultTypes.toList ((Value.bool true).resultList f.resultTypes.size) (s.fn H (ds++[])).results []:=by
  intro b sp hd
  rw [hres,hrt]
  exact trodAll_mk1 (shut_bool htb true)
 have hvs:∀ sp:Nat→Bool,DataW.TrodVars enc P W' sp s.vars (s.fn H (ds++[])).vars []:=by
  intro sp
  rw [hvars,hv]
  rfl
 have hold:∀ x∈p,(fun b=>decide (b<W.heap.size)) x.block=true:=fun x hx=>by simpa using hltp x hx
 refine ⟨ds,[],p++[],[],p,[],hW',hrs _ _ _,by rw [hargs]; exact ha _ hold,hvs _,World.keptBut_mono (fun x hx=>⟨hx,?_⟩) (hb.frame (·∈p++[])),fun _=>?_⟩
 ·exact Or.inr (Or.inl (by simpa using hx))
 ·refine ⟨?_,(s.fn H (ds++[])).results++ds,[],([]++p)++[],⟨[]++p,[],trodAll_append (ha _ (fun _ _=>rfl)) (hrs _ _ _),by rw [hv]; rfl,rfl,?_,?_⟩,?_⟩
  ·rw [hrt]
   intro j t r hj hv'
   match j,hj,hv' with
   | 0,hj,hv' =>
    simp [Value.resultList] at hj hv'
    subst hj; subst hv'
    exact okWide_bool_mk htb true
  ·intro b off hp
   have hin:MemPlace.cell b off∈p++[]:=by simpa using hp
   rw [hb.frozen (hlt _ hin)]
   exact hz b off hin
  ·intro ha'
   have:=hn ha'
   simpa using this
  ·intro x hx _
   simpa using hx
theorem open_bytes {w:World} {base:Nat} {sp:Nat→Bool} {held:Bool} {fuel:Nat} {t e:TypeId} {n:Nat} {cs:List Value} {x:DataW H×List MemPlace}
  (ht:P.underlying t=some (.array n e)) (he:P.underlying e=some (.int .u8)) (hce:P.cellsOf e=1) (hct:P.cellsOf t=n)
  (h:DataW.trod enc P w base sp held fuel t cs=some x):∃ l:List UInt8,l.length=n∧cs=l.map bv:=by
 cases fuel with
 | zero=>simp [DataW.trod] at h
 | succ fuel =>
  simp only [DataW.trod,ht,hce,hct,Nat.mul_one] at h
  split at h
  ·rename_i hl
   obtain ⟨xs,hm,hx⟩:=Option.map_eq_some_iff.1 h
   have hone:∀ i,i<n→∃ u:UInt8,cs[i]? = some (bv u):=by
    intro i hi
    obtain ⟨b,hb,hf⟩:=Lib.mapM_at hm i i (by simp [hi])
    obtain ⟨z,hc,rfl,hw⟩:=DataW.trod_int he hf
    have h1:cs[i]? = some (.int .u8 z):=by
     have:=congrArg (·[0]?) hc
     simpa [List.getElem?_take,List.getElem?_drop] using this
    have hz:0≤z∧z<256:=by
     simp [Lit.wf,IntKind.bits,IntKind.signed,IntKind.min,IntKind.max] at hw
     omega
    refine ⟨UInt8.ofNat z.toNat,?_⟩
    rw [h1]
    unfold bv
    congr 2
    rw [UInt8.toNat_ofNat']
    omega
   refine ⟨cs.map (fun v=>match v with | .int _ z=>UInt8.ofNat z.toNat | _=>0),by simpa using hl,?_⟩
   apply List.ext_getElem?
   intro i
   by_cases hi:i<n
   ·obtain ⟨u,hu⟩:=hone i hi
    simp [hu,bv]
   ·have:cs.length≤i:=by omega
    simp [List.getElem?_eq_none this]
  ·cases h
end
end Sh
end
section
namespace Sh
open Go.ChangeShapes Go.WideShapes Go.ChangeAt Go.RowKit Sp
theorem ownNone:ownKnob Tryz.prog.godebug=none:=by kernel_rfl
theorem laidOutP:laidOutB Tryz.prog=true:=by kernel_rfl
theorem N8:Tryz.prog.cellsOf 185=64:=by kernel_rfl
theorem LQ:Tryz.prog.cellsOf 183=1:=by kernel_rfl
theorem cellsByte:Tryz.prog.cellsOf 5=1:=by kernel_rfl
theorem ag:(Tryz.prog.globals[1]?).map (·.type)=some 185:=by kernel_rfl
theorem aV:(Tryz.prog.globals[0]?).map (·.type)=some 185:=by kernel_rfl
theorem Zy : Tryz.prog.globalNamed "tollhouse/sha.cubeRoots" = some 1 := by kernel_rfl
theorem Zk : Tryz.prog.globalNamed "tollhouse/tollhouseref01.table" = some 0 := by kernel_rfl
theorem So {W:World} {name:String} {g:Nat} (hg:Tryz.prog.globalNamed name=some g) (ht:Lib.TabIs Tryz.prog W name .u32 (ktab.map (fun n:Nat=>(n:Int)))):TabAt W g:=by
 intro t hlt
 have hk:ktab.length=64:=rfl
 have hc:=ht.cell hg t (by rw [List.length_map,hk]; exact hlt)
 rw [hc]
 unfold wv kc
 rw [BitVec.toNat_ofNat]
 have hb:∀ j,j<64→(ktab.getD j 0)%2 ^ 32=ktab.getD j 0:=by decide
 rw [hb t hlt]
 have hlt':t<ktab.length:=by rw [hk]; exact hlt
 simp [List.getElem?_eq_getElem hlt']
theorem tabs {W : World} (h : laidMet Tryz.prog [("tollhouse/tollhouseref01.table", Rows.laid_tollhouse_tollhouseref01_table), ("tollhouse/sha.cubeRoots", Rows.laid_tollhouse_sha_cubeRoots)] W) : TabAt W 1 ∧ TabAt W 0 := by
 have h2 := h.filter (fun x => x.1 == "tollhouse/sha.cubeRoots")
 have t1 : Lib.TabIs Tryz.prog W "tollhouse/tollhouseref01.table" .u32 (ktab.map (fun n : Nat => (n : Int))) :=
  Lib.tabIs_of_head (rest := [("tollhouse/sha.cubeRoots", Rows.laid_tollhouse_sha_cubeRoots)]) Zk aV Tryz.underlying185 Tryz.underlying183 LQ N8 h
 have t2 : Lib.TabIs Tryz.prog W "tollhouse/sha.cubeRoots" .u32 (ktab.map (fun n : Nat => (n : Int))) :=
  Lib.tabIs_of_head (rest:=[]) Zy ag Tryz.underlying185 Tryz.underlying183 LQ N8 h2
 exact ⟨So Zy t2,So Zk t1⟩
def P5:Obj→Obj
 | .cells _ t frozen=>.cells (ktab.map (fun n:Nat=>Value.int .u32 n)).toArray t frozen
 | o=>o
noncomputable def tabWorld (os:Os):World :=
 { World.holding Tryz.prog os ⟨#[],#[],[]⟩ with heap:=((World.holding Tryz.prog os ⟨#[],#[],[]⟩).heap.modify 1 P5).modify 0 P5 }
end Sh
end
end Go.Proofs.YtgemfpnlnipfnabGreatDoor
