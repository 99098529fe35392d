/-
  Texts of ours, put together: FeSpec, ShaSpec, ShaWd, Mem, FeLift, Zz, WirA, ScpA, FeBase, FeAdd, FeOrd, OrdV, Ord4, Rnd, Sym, SymB, SymC, SymE, SymF, SymG, SymG2, SymZ, SymK, SymD, SymY, SymI, SymR, Ec, EcM, FeMul, FeRow, FeProd, FeOps, FeMul2, FeNum, FePow, FeRuns, FeEq, FeSqrt, FeInv, Crv, NumEq, Pnt, ZzK, CrvA, CrvB, RefNum, RefMinus, RowZ, FoldZ, RefFold, RefAdd, MulZ, RefMul, PowZ, RefPow, NumB, FeOwn, RefBytes, CrvC, CurveAlive, FeB32, FeRead, RefSqrt, RootNum, CrvD, CrvF, CrvG, CrvH, CurveBackL, SymT, SymQ, SymW, SymU, WirB, WirC, WirD, WirE, WirF, WirG, WirH, WirI, ScpB, ScpC, SymS, SymP, SymN, ScpD, ScpE, ScpF, ScpX, LiftS, LgsA, SymL, LogstoreSumsL.
-/
import Derived.WalkKit
import Derived.KernelRfl
import Derived.WalkSpells
import Derived.WalkLawsBesides
import Derived.Below
import Derived.Laws.OwnMore
import Derived.Deep.Draws
import Derived.Deep.QuietTactic
import Derived.Deep.WholeRow
import Derived.Deep.OwnRows
import Derived.Laws.CopyOwn
import Derived.OwnWalk
import Derived.Deep.MidRow
import Derived.Lib.Hide
import Derived.Laws.Rows
import Derived.Test.YtgggdbjakcpanaaRows
import Derived.Laws.IdiomArrays
import Derived.ProofKit
import Derived.OpenShut
import Derived.Deep.DeepHandedRow
import Derived.Lib.LaidTab
import Derived.Test.YtgggdbjakcpanaaChecked
import Derived.Shelf.Spec.BitsCarry
import Derived.Lib.Mul64
import Derived.Laws.Bits64b
import Derived.Laws.ResultCell
import Derived.Test.YtgggdbjakcpanaaQOrd
import Derived.OrdersIn
import Derived.TacticsIn
import Derived.RangeFuncCalls
import Derived.ControlIn
import Derived.RangeFuncNested
import Derived.RangeFuncLeaves
import Derived.LoopNIn
import Derived.Laws.AppendOwn
import Derived.Deep.DeepAppendRoom
import Derived.ArgAppend
import Derived.Laws.IdiomCopy
import Derived.Laws.MakeOwn
import Derived.RangeFuncSeq
import Derived.OwnWalkIn
import Derived.RegionTactic
import Derived.ChangeAlike
import Derived.BigRegion
import Derived.Stop.BytesEq
import Derived.Deep.AppendLies
import Derived.Great.BuildSlice
import Derived.Laws.Tables
import Derived.Lib.AppendZeros
import Derived.Scope
import Derived.Deep.Slices
import Derived.SizedLaws
import Derived.Lib.SlBytesConst
set_option linter.unusedVariables false
set_option linter.unusedSimpArgs false
namespace Go.Proofs.Ytgggdbjakcpanaa
section
open Go.RowKit
section
variable {P:Program} {ops:Array Oper} {Q:Exit→Act→World→Prop} {md:Region.Mode} {ex:Nat→Bool}
theorem tkw (i:Nat) {oi:Oper} {v:Value} {fuel:Nat} {listed:Array Bool} {a:Act} {w:World} (hi0:ops.toList[i]? = some oi) (hy:YieldsG P ops oi v a w) (h:wpAnyG P md ops Q ex fuel (listed.setIfInBounds i true) (a.put oi.dst v) w) (hc:canTake md ops listed ex i=true:=by kernel_rfl) (hQ:∀ c a w,Q (.panic c) (a.put oi.dst v) w→Q (.panic c) a w:=by exact λ_ _ _ h=>h):wpAnyG P md ops Q ex (fuel+1) listed a w:=wpAnyG_take i hi0 hc hQ hy h
theorem tk (i:Nat) {oi:Oper} {v:Value} {fuel:Nat} {listed:Array Bool} {a:Act} {w:World} (hi0:ops.toList[i]? = some oi) (h:wpAnyG P md ops Q ex fuel (listed.setIfInBounds i true) (a.put oi.dst v) w) (hw:Region.wanted oi (yielded ops a.tmps)=true:=by rfl) (hg:∀ w1,Gr w w1→(execOp a.eval oi).run P w1=.ok (.value v) w1:=by intro w9 _; go_simp; try with_reducible rfl) (hc:canTake md ops listed ex i=true:=by kernel_rfl) (hQ:∀ c a w,Q (.panic c) (a.put oi.dst v) w→Q (.panic c) a w:=by exact λ_ _ _ h=>h):wpAnyG P md ops Q ex (fuel+1) listed a w:=wpAnyG_take i hi0 hc hQ (YieldsG.pure hw hg) h
end
theorem aA {α:Type _} (l:List α) (i:Nat) (a:α):l.toArray.setIfInBounds i a=(l.set i a).toArray:=List.setIfInBounds_toArray ..
theorem aZ {α:Type _} {x:α} {xs:List α} {a:α}:(x::xs).set 0 a=a::xs:=rfl
theorem aS {α:Type _} {x:α} {xs:List α} {n:Nat} {a:α}:(x::xs).set (n+1) a=x::xs.set n a:=rfl
abbrev Zl (n:Nat):List Value:=List.replicate n (.int .u8 0)
end
section
section
open Go.RowKit
def qv (n:Nat):Value:=.int .u64 (n:Int)
def fv (n:Nat):Value:=.agg #[qv (n%18446744073709551616),qv (n / 18446744073709551616%18446744073709551616),qv (n / 340282366920938463463374607431768211456%18446744073709551616),qv (n / 6277101735386680763835789423207666416102355444464034512896%18446744073709551616)]
end
end
section
namespace Sp
end Sp
end
section
section
open Go.RowKit Sp
end
end
section
section
open Go.RowKit Sp
def Blk (w:World) (g:Nat) (t:TypeId) (cs:Array Value):Prop:=w.heap[g]? = some (.cells cs t (0,0))
section
variable {w w':World} {g:Nat} {t:TypeId} {cs:Array Value}
theorem Blk.lt (h:Blk w g t cs):g<w.heap.size:=by
 rcases Nat.lt_or_ge g w.heap.size with hlt | hge
 ·exact hlt
 ·unfold Blk at h; rw [Array.getElem?_eq_none hge] at h; cases h
theorem Blk.cell (h:Blk w g t cs) (i:Nat):w.cell? ⟨g,i,none⟩=cs[i]?:=cell_of_row w g i cs t (0,0) h
theorem Blk.frozen (h:Blk w g t cs) (i:Nat):w.frozen? ⟨g,i,none⟩=false:=by
 unfold Blk at h
 simp [World.frozen?,h]
theorem Blk.set_ (h:Blk w g t cs) (i:Nat) (u:Value):Blk (w.setCell ⟨g,i,none⟩ u) g t (cs.setIfInBounds i u):=by
 unfold Blk at h ⊢
 simp [World.setCell,Array.getElem?_modify,h]
theorem Blk.below {B:Nat} (h:Blk w g t cs) (hb:Below B w w') (hg:g<B):Blk w' g t cs:=(hb.block g hg).trans h
theorem Blk.grown {row:Option Nat} (h:Blk w g t cs) (hb:w.grownBy w' row) (hg:some g≠row):Blk w' g t cs:=(hb.block g h.lt hg).trans h
theorem only_setCell {a w:World} {g:Nat} (h:a.grownBy w (some g)) {p:Addr} (hp:p.block=g∨a.heap.size≤p.block) (u:Value):a.grownBy (w.setCell p u) (some g) :=
 ⟨h.os,h.tape,h.output,by simpa [World.setCell] using h.size,λi hi hne=>(Below.heap_setCell w p u i (by
  rintro rfl
  rcases hp with hp | hp
  ·exact hne (by rw [hp])
  ·omega)).trans (h.block i hi hne)⟩
theorem below_of_only {B g:Nat} {a w:World} (h:a.grownBy w (some g)) (hB:B≤a.heap.size) (hg:B≤g):Below B a w :=
 ⟨h.os,h.tape,h.output,h.size,λk hk=>h.block k (by omega) (λe=>by injection e; omega)⟩
theorem Blk.there {w:World} {g:Nat} {t:TypeId} {cs:Array Value} (h:Blk w g t cs) (o n:Nat) (hn:o+n≤cs.size):w.there g o n:=λj hj =>
 ⟨by rw [h.cell]; simp; omega,h.frozen _⟩
end
def bv (x:UInt8):Value:=.int .u8 (x.toNat:Int)
end
end
section
section
open Go.ChangeShapes Go.WideShapes Go.ChangeAt Go.RowKit
section
variable {H:Type} {enc:TypeId×Value→H} {P:Program}
theorem trodAll_stays (hl:laidOutB P=true) {W W':World} (hb:Below W.heap.size W W'):∀ (ts:List TypeId) (vs:List Value) (ds:List (DataW H)) (ps:List MemPlace),
  (∀ t∈ts,P.readableRec t=true∧t<P.types.size)→DataW.TrodAll enc P W 0 (λ_=>true) true ts vs ds ps→(∀ p∈ps,p.block<W.heap.size) →
  ∀ sp:Nat→Bool,(∀ p∈ps,sp p.block=true)→DataW.TrodAll enc P W' 0 sp true ts vs ds ps
 | [],vs,ds,ps,_,h,_,_,_=>by
  obtain ⟨rfl,rfl,rfl⟩:=trodAll_nil h
  exact trodAll_mk0
 | t::ts,vs,ds,ps,hr,h,hlt,sp,hs=>by
  obtain ⟨v,vs',d,ds',p,q,rfl,rfl,rfl,h0,h1⟩:=trodAll_cons h
  have hr0:=hr t (by simp)
  exact trodAll_cons_mk (WideElems.Trod_stays hl hr0.1 hr0.2 h0 (λx hx=>hb.same (hlt x (by simp [hx]))) (λx hx=>hs x (by simp [hx])))
   (trodAll_stays hl hb ts vs' ds' q (λt ht=>hr t (by simp [ht])) h1 (λx hx=>hlt x (by simp [hx])) sp (λx hx=>hs x (by simp [hx])))
theorem law_post {f:Func} {s:ChangeSpec} {apart fresh handsOn again:Bool} {W W':World} {args:Array Value} {ds gs:List (DataW H)} {before:List MemPlace} {tb:TypeId}
  (hl:laidOutB P=true) (hr:∀ t∈f.params.toList,P.readableRec t=true∧t<P.types.size)
  (hW:DataW.Whole enc P f.params.toList s.vars apart W args.toList ds gs before) (hv:s.vars=[]) (hrt:f.resultTypes=#[tb]) (htb:P.underlying tb=some .bool)
  (hres:(s.fn H (ds++gs)).results=[.lit (.bool true)]) (hargs:(s.fn H (ds++gs)).args=ds) (hvars:(s.fn H (ds++gs)).vars=[])
  (hb:Below W.heap.size W W'):s.post enc P f apart fresh handsOn again W args (.bool true) W':=by
 have hlt:∀ p∈before,p.block<W.heap.size:=λp hp=>hW.lt p hp
 have hW':=hW
 obtain ⟨p,q,hA,hV,rfl,hz,hn⟩:=hW
 rw [hv] at hV
 obtain ⟨rfl,rfl⟩:=trodVars_none hV
 have hltp:∀ x∈p,x.block<W.heap.size:=λx hx=>hlt x (by simp [hx])
 have ha:=trodAll_stays hl hb f.params.toList args.toList ds p hr hA hltp
 have hrs:∀ (b:Nat) (sp:Nat→Bool) (hd:Bool),DataW.TrodAll enc P W' b sp hd f.resultTypes.toList ((Value.bool true).resultList f.resultTypes.size) (s.fn H (ds++[])).results []:=by
  intro b sp hd
  rw [hres,hrt]
  exact trodAll_mk1 (shut_bool htb true)
 have hvs:∀ sp:Nat→Bool,DataW.TrodVars enc P W' sp s.vars (s.fn H (ds++[])).vars []:=by
  intro sp
  rw [hvars,hv]
  rfl
 have hold:∀ x∈p,(λb=>decide (b<W.heap.size)) x.block=true:=λx hx=>by simpa using hltp x hx
 refine ⟨ds,[],p++[],[],p,[],hW',hrs _ _ _,by rw [hargs]; exact ha _ hold,hvs _,World.keptBut_mono (λx hx=>⟨hx,?_⟩) (hb.frame (·∈p++[])),λ_=>?_⟩
 ·exact Or.inr (Or.inl (by simpa using hx))
 ·refine ⟨?_,(s.fn H (ds++[])).results++ds,[],([]++p)++[],⟨[]++p,[],trodAll_append (ha _ (λ_ _=>rfl)) (hrs _ _ _),by rw [hv]; rfl,rfl,?_,?_⟩,?_⟩
  ·rw [hrt]
   intro j t r hj hv'
   match j,hj,hv' with
   | 0,hj,hv' =>
    simp [Value.resultList] at hj hv'
    subst hj; subst hv'
    exact okWide_bool_mk htb true
  ·intro b off hp
   have hin:MemPlace.cell b off∈p++[]:=by simpa using hp
   rw [hb.frozen (hlt _ hin)]
   exact hz b off hin
  ·intro ha'
   have:=hn ha'
   simpa using this
  ·intro x hx _
   simpa using hx
end
end
end
section
section
theorem kR {α:Sort _} {a b:α} (h:a=b:=by kernel_rfl):a=b:=h
theorem kL {a b:Nat} (h:Nat.ble a b=true:=by kernel_rfl):a≤b:=Nat.le_of_ble_eq_true h
theorem kF {α:Sort _} {β:α→Sort _} {f g:(x:α)→β x} (h:∀ x,f x=g x:=by intro _; kernel_rfl) (x:α):f x=g x:=h x
end
end
section
namespace Wr
abbrev Byt:=List UInt8
end Wr
end
section
namespace Pg
open Wr
end Pg
end
section
section
open Go.RowKit Go.Lib
section
variable {P:Program} {ops:Array Oper} {Q:Exit→Act→World→Prop} {rest:List Oper} {a:Act} {w:World} {d:Option Tmp} {t:TypeId} {p:String} {af:Array Edge} {g:Option (Nat×Bool)}
end
end
end
section
section
open Go.RowKit Go.Lib
end
end
section
section
open Go.RowKit Go.Lib
theorem Gr.blk {w w':World} (h:Gr w w') {g:Nat} {t:TypeId} {cs:Array Value} (hg:Blk w g t cs):Blk w' g t cs:=Blk.below hg h hg.lt
theorem Below.gr {w a b:World} (h:Below w.heap.size w a) (g:Gr a b):Below w.heap.size w b:=Below.trans h (Below.mono g (Below.size h))
section
variable {P:Program} {ops:Array Oper} {Q:Exit→Act→World→Prop} {md:Region.Mode} {ex:Nat→Bool}
end
open Go.RowKit
section
variable {P:Program} {ops:Array Oper} {Q:Exit→Act→World→Prop} {md:Region.Mode} {ex:Nat→Bool}
theorem wpOp_putA {j:Nat} {oi oj:Oper} {v:Value} (hj:ops[j]? = some oj) (hap:oi.apart ops oj=true)
  (hsi:∀ cs b,oi.op≠.select cs b) (hsj:∀ cs b,oj.op≠.select cs b)
  (hQ:∀ c a w,Q (.panic c) (a.put oi.dst v) w→Q (.panic c) a w) {K:Act→World→Prop} {a:Act} {w:World}
  (hy:∀ w0,YieldsG P ops oi v a w0) (h:wpOp P ops Q j K (a.put oi.dst v) w) :
  wpOp P ops Q j (λa' w'=>(∀ w0,YieldsG P ops oi v a' w0)∧K (a'.put oi.dst v) w') a w:=by
 obtain ⟨h1,h2,h3⟩:=Oper.apart_spec hap
 have keep:∀ (a:Act),(∀ w0,YieldsG P ops oi v a w0)→∀ u w0,YieldsG P ops oi v (a.put oj.dst u) w0:=λa hy u w0 =>
  (hy w0).of_same (execOp_put oi hsi a oj.dst u h3) (wanted_put oi a oj.dst u h3)
 have keepD:∀ d w0,YieldsG P ops oi v { a with defers:=d::a.defers } w0:=λd w0=>(hy w0).of_same rfl rfl
 unfold wpOp at *
 simp only [hj] at *
 rw [wanted_put oj a oi.dst v h1] at h
 split
 ·rename_i hw
  simp only [hw,if_true] at h
  rcases h with h | ⟨hasks,hlets⟩
  case inr=>exact .inr ⟨by unfold Oper.asks at *; rw [execOp_put oj hsj a oi.dst v h1] at hasks; exact hasks,hlets⟩
  refine .inl ?_
  unfold Oper.wp at *
  rw [execOp_put oj hsj a oi.dst v h1] at h
  generalize (execOp a.eval oj).run P w=r at *
  cases r with
  | ok n w' =>
   cases n <;> simp only [Oper.upon] at h ⊢
   case value u=>exact ⟨keep a hy u,by rw [← Act.put_comm a v u h2]; exact h⟩
   case skip=>exact ⟨keep a hy _,by rw [← Act.put_comm a v undef h2]; exact h⟩
   case defer d =>
    refine ⟨keep _ (keepD d) _,?_⟩
    rw [← Act.put_comm _ v undef h2, ← Act.put_defers]
    exact h
   case enter f args =>
    refine Calls.mono h λe w'' he=>?_
    cases e with
    | returned u=>exact ⟨keep a hy u,by rw [← Act.put_comm a v u h2]; exact he⟩
    | panicked c=>exact hQ _ _ _ he
    | outgrown=>exact he
   case row row args=>exact Rows.mono h λu w'' he=>⟨keep a hy u,by rw [← Act.put_comm a v u h2]; exact he⟩
  | halt x w' =>
   cases x <;> simp only [Oper.upon] at h ⊢
   case panic u=>exact hQ _ _ _ h
 ·rename_i hw
  simp only [hw] at h
  exact ⟨keep a hy _,by rw [← Act.put_comm a v undef h2]; exact h⟩
theorem wpAnyG_firstA {i:Nat} {oi:Oper} {v:Value} (hi:ops[i]? = some oi) (hsel:∀ (j:Nat) (o:Oper) cs b,ops[j]? = some o→o.op≠.select cs b)
  (hQ:∀ c a w,Q (.panic c) (a.put oi.dst v) w→Q (.panic c) a w) :
  ∀ (fuel:Nat) (listed:Array Bool) (a:Act) (w:World),
   (∀ j oj,ops[j]? = some oj→j≠i→listed.getD j true=false→(∀ e∈oj.after,Region.binds md e=true→e.on≠i)→oi.apart ops oj=true) →
   i∈Region.ready md ops listed→(∀ w0,YieldsG P ops oi v a w0) →
   wpAnyG P md ops Q ex fuel (listed.setIfInBounds i true) (a.put oi.dst v) w→wpAnyG P md ops Q ex (fuel+1) listed a w:=by
 intro fuel
 induction fuel with
 | zero =>
  intro listed a w _ hr hy H w1 hw1
  refine ⟨λh=>(by rw [h] at hr; cases hr),λj hj=>?_⟩
  by_cases hji:j=i
  ·subst hji; exact (hy w1).wpOp hi (λw' h'=>⟨λ_=>h',wpAnyG_grow _ _ _ _ _ (hw1.trans h') H⟩)
  ·have:=ready_mono hj hji
   rw [H.1] at this
   cases this
 | succ fuel ih =>
  intro listed a w hfree hr hy H w1 hw1
  refine ⟨λh=>(by rw [h] at hr; cases hr),λj hj=>?_⟩
  by_cases hji:j=i
  ·subst hji; exact (hy w1).wpOp hi (λw' h'=>⟨λ_=>h',wpAnyG_grow _ _ _ _ _ (hw1.trans h') H⟩)
  ·have h1:=(H w1 hw1).2 j (ready_mono hj hji)
   obtain ⟨hjun,oj,hoj,hall⟩:=mem_ready.1 hj
   have hnot:∀ e∈oj.after,Region.binds md e=true→e.on≠i:=λe he hb heq=>by
    have h1:=hall e he hb
    have h0:=(mem_ready.1 hr).1
    rw [heq] at h1
    rcases Nat.lt_or_ge i listed.size with h' | h'
    ·simp [h'] at h0 h1; rw [h0] at h1; cases h1
    ·simp [Array.getElem?_eq_none h'] at h1
   have h2:=wpOp_putA hoj (hfree j oj hoj hji hjun hnot) (λcs b=>hsel i oi cs b hi) (λcs b=>hsel j oj cs b hoj) hQ hy h1
   have hfree':∀ k ok,ops[k]? = some ok→k≠i→(listed.setIfInBounds j true).getD k true=false →
     (∀ e∈ok.after,Region.binds md e=true→e.on≠i)→oi.apart ops ok=true:=λk ok hk hki hun hno=>by
    refine hfree k ok hk hki ?_ hno
    by_cases hjk:j=k
    ·subst hjk; exact hjun
    ·rw [getD_set_ne true hjk] at hun; exact hun
   refine wpOp_mono (λa' w' h3=>⟨h3.2.1,ih (listed.setIfInBounds j true) a' w' hfree' (ready_mono hr (Ne.symm hji)) h3.1 ?_⟩) h2
   rw [Array.setIfInBounds_comm _ _ hji]
   exact h3.2.2
def canTakeA (md:Region.Mode) (ops:Array Oper) (listed:Array Bool) (i:Nat):Bool :=
 Region.noSelect ops && Region.free md ops listed i && (Region.ready md ops listed).contains i
theorem wpAnyG_takeA (i:Nat) {oi:Oper} {v:Value} {fuel:Nat} {listed:Array Bool} {a:Act} {w:World} (hi0:ops.toList[i]? = some oi) (hc:canTakeA md ops listed i=true)
  (hQ:∀ c a w,Q (.panic c) (a.put oi.dst v) w→Q (.panic c) a w) (hy:∀ w0,YieldsG P ops oi v a w0)
  (h:wpAnyG P md ops Q ex fuel (listed.setIfInBounds i true) (a.put oi.dst v) w):wpAnyG P md ops Q ex (fuel+1) listed a w:=by
 have hi:ops[i]? = some oi:=by simpa using hi0
 unfold canTakeA at hc
 simp only [Bool.and_eq_true] at hc
 exact wpAnyG_firstA hi (Region.noSelect_spec hc.1.1) hQ fuel listed a w (Region.free_spec hi hc.1.2) (by simpa using hc.2) hy h
end
section
variable {P:Program} {ops:Array Oper} {Q:Exit→Act→World→Prop} {md:Region.Mode} {ex:Nat→Bool}
end
end
end
section
section
open Go.RowKit
section
variable {P:Program} {ops:Array Oper} {Q:Exit→Act→World→Prop} {md:Region.Mode} {V:List (Nat×Obj)}
end
end
end
section
section
open Go.RowKit
section
variable {P:Program} {ops:Array Oper} {Q:Exit→Act→World→Prop} {md:Region.Mode} {ex:Nat→Bool}
end
end
end
section
namespace Sy
open Go.RowKit
section
variable {P:Program} {ops:Array Oper} {Q:Exit→Act→World→Prop} {md:Region.Mode} {l n:Nat}
end
end Sy
end
section
namespace Sy
open Go.RowKit
abbrev Slots:=List (Nat×Value)
abbrev Blocks:=List (Nat×TypeId×Array Value)
structure Base where
 world:World
 fz:World
 ds:List Deferred
 fence:Fence
 room:Nat
abbrev Base.of (w:World):Base:=⟨w,w,[],Fence.wide,9⟩
def Fr (ds:List Deferred) (a:Act) (n:Nat) (F:Slots):Prop:=a.defers=ds∧a.tmps.size=n∧∀ i v,F.lookup i=some v→a.tmps[i]? = some v
def evF (F:Slots):Operand→Value
 | .tmp t=>(F.lookup t).getD undef
 | .const v=>v
 | .global g=>.pointer (some ⟨g,0,none⟩)
 | .func f=>.func (.func f) #[] #[]
def inF (F:Slots):Operand→Bool
 | .tmp t=>(F.lookup t).isSome
 | _=>true
def putF (F:Slots):Option Tmp→Value→Slots
 | none,_=>F
 | some d,v=>(d,v)::F
def fits (n:Nat):Option Tmp→Bool
 | none=>true
 | some d=>decide (d<n)
theorem Fr.eval {ds:List Deferred} {a:Act} {n:Nat} {F:Slots} (h:Fr ds a n F) {x:Operand} (hx:inF F x=true):a.eval x=evF F x:=by
 cases x with
 | tmp t =>
  obtain ⟨v,hv⟩:=Option.isSome_iff_exists.1 hx
  have:=h.2.2 t v hv
  show a.tmps.getD t undef=(F.lookup t).getD undef
  rw [hv]
  simp [Array.getD_eq_getD_getElem?,this]
 | const v=>rfl
 | global g=>rfl
 | func f=>rfl
theorem Fr.put {ds:List Deferred} {a:Act} {n:Nat} {F:Slots} (h:Fr ds a n F) {d:Option Tmp} (hd:fits n d=true) (v:Value):Fr ds (a.put d v) n (putF F d v):=by
 cases d with
 | none=>exact h
 | some d =>
  have hd':d<n:=of_decide_eq_true hd
  refine ⟨h.1,by simp [Act.put,h.2.1],λi u hi=>?_⟩
  simp only [putF,List.lookup_cons] at hi
  simp only [Act.put]
  by_cases e:i=d
  ·subst e
   simp at hi
   subst hi
   rw [Array.getElem?_setIfInBounds_self_of_lt (by rw [h.2.1]; exact hd')]
  ·have e':(i == d)=false:=by simpa using e
   rw [e'] at hi
   rw [Array.getElem?_setIfInBounds_ne (Ne.symm e)]
   exact h.2.2 i u hi
theorem Fr.less {ds:List Deferred} {a:Act} {n:Nat} {F G:Slots} (h:Fr ds a n F) (hG:∀ i v,G.lookup i=some v→F.lookup i=some v):Fr ds a n G:=⟨h.1,h.2.1,λi v hi=>h.2.2 i v (hG i v hi)⟩
def stays:Obj→Bool
 | .cells _ _ fr=>fr != (0,0)
 | _=>true
structure St (w0:Base) (w:World) (L:Blocks):Prop where
 below:Below w0.world.heap.size w0.world w
 blk:∀ g t cs,(g,t,cs)∈L→w0.world.heap.size≤g∧Blk w g t cs
 apart:(L.map (·.1)).Nodup
 size:w0.fz.heap.size≤w.heap.size
 non:∀ (k:Nat) (o:Obj),w0.world.heap.size≤k→w0.fz.heap[k]? = some o→stays o=true→w.heap[k]? = some o
theorem St.start (w:World):St (Base.of w) w []:=⟨Below.refl _ _,(λ_ _ _ h=>by cases h),List.Pairwise.nil,Nat.le_refl _,λ_ _ _ h _=>h⟩
theorem St.gr {w0:Base} {w w':World} {L:Blocks} (h:St w0 w L) (hg:Gr w w'):St w0 w' L :=
 ⟨Below.gr h.below hg,λg t cs hm=>⟨(h.blk g t cs hm).1,hg.blk (h.blk g t cs hm).2⟩,h.apart,Nat.le_trans h.size hg.size,λk o hk ho hc=>by
  have h1:=h.non k o hk ho hc
  exact (hg.block k (Array.getElem?_eq_some_iff.1 h1).1).trans h1⟩
theorem St.get {w0:Base} {w:World} {L:Blocks} (h:St w0 w L) {i g:Nat} {t:TypeId} {cs:Array Value} (hi:L[i]? = some (g,t,cs)):Blk w g t cs:=(h.blk g t cs (List.mem_of_getElem? hi)).2
theorem St.add {w0:Base} {w w':World} {L:Blocks} (h:St w0 w L) (hg:Gr w w') {g:Nat} {t:TypeId} {cs:Array Value} (hn:w.heap.size≤g) (hb:Blk w' g t cs):St w0 w' (L++[(g,t,cs)]):=by
 have h':=h.gr hg
 refine ⟨h'.below,λg' t' cs' hm=>?_,?_,h'.size,h'.non⟩
 ·rcases List.mem_append.1 hm with hm | hm
  ·exact h'.blk g' t' cs' hm
  ·obtain ⟨rfl,rfl,rfl⟩:g'=g∧t'=t∧cs'=cs:=by simpa using hm
   exact ⟨Nat.le_trans h.below.size hn,hb⟩
 ·rw [List.map_append,List.nodup_append]
  refine ⟨h.apart,by simp,λx hx y hy e=>?_⟩
  obtain ⟨⟨g',t',cs'⟩,hm,rfl⟩:=List.mem_map.1 hx
  have hlt:=(h.blk g' t' cs' hm).2.lt
  have:y=g:=by simpa using hy
  omega
theorem St.set {w0:Base} {w w':World} {L:Blocks} (h:St w0 w L) {i g:Nat} {t:TypeId} {cs cs':Array Value} (hi:L[i]? = some (g,t,cs)) (hg:w.grownBy w' (some g)) (hn:Blk w' g t cs'):St w0 w' (L.set i (g,t,cs')):=by
 have hil:=(List.getElem?_eq_some_iff.1 hi).1
 have hie:=(List.getElem?_eq_some_iff.1 hi).2
 have hbk:=h.blk g t cs (List.mem_of_getElem? hi)
 refine ⟨h.below.trans (below_of_only hg h.below.size hbk.1),λg1 t1 c1 hm=>?_,?_,Nat.le_trans h.size hg.size,λk o hk ho hc=>?_⟩
 ·obtain ⟨j,hj⟩:=List.getElem?_of_mem hm
  rw [List.getElem?_set] at hj
  by_cases e:i=j
  ·subst e
   rw [if_pos rfl,if_pos hil] at hj
   obtain ⟨rfl,rfl,rfl⟩:g=g1∧t=t1∧cs'=c1:=by simpa using hj
   exact ⟨hbk.1,hn⟩
  ·rw [if_neg e] at hj
   have hm1:=h.blk g1 t1 c1 (List.mem_of_getElem? hj)
   refine ⟨hm1.1,hm1.2.grown hg (λeg=>e ?_)⟩
   obtain rfl:g1=g:=by injection eg
   have hjl:=(List.getElem?_eq_some_iff.1 hj).1
   have hje:=(List.getElem?_eq_some_iff.1 hj).2
   have hp:=List.pairwise_iff_getElem.1 h.apart
   rcases Nat.lt_trichotomy i j with hlt | he | hlt
   ·exact (hp i j (by simpa using hil) (by simpa using hjl) hlt (by simp [hie,hje])).elim
   ·exact he
   ·exact (hp j i (by simpa using hjl) (by simpa using hil) hlt (by simp [hie,hje])).elim
 ·rw [List.map_set]
  have:(L.map (·.1)).set i g=L.map (·.1):=by
   apply List.ext_getElem?
   intro j
   rw [List.getElem?_set]
   by_cases e:i=j
   ·subst e
    rw [if_pos rfl,if_pos (by simpa using hil)]
    simp [hi]
   ·rw [if_neg e]
  show ((L.map (·.1)).set i g).Nodup
  rw [this]
  exact h.apart
 ·have h1:=h.non k o hk ho hc
  refine (hg.block k (Array.getElem?_eq_some_iff.1 h1).1 (λe=>?_)).trans h1
  obtain rfl:k=g:=by injection e
  have h2:=hbk.2
  unfold Blk at h2
  rw [h2] at h1
  cases h1
  simp [stays] at hc
def wantedF (ops:Array Oper) (F:Slots) (o:Oper):Option Bool :=
 match o.guard with
 | none=>some true
 | some (j,want)=>match (ops[j]?).bind (·.dst) with
  | none=>some false
  | some t=>match F.lookup t with
   | some (.bool b)=>some (b == want)
   | some _=>some false
   | none=>none
theorem Fr.wanted {ds:List Deferred} {a:Act} {n:Nat} {F:Slots} (h:Fr ds a n F) {ops:Array Oper} {o:Oper} {b:Bool} (hw:wantedF ops F o=some b):Region.wanted o (yielded ops a.tmps)=b:=by
 unfold wantedF at hw
 unfold Region.wanted
 cases hg:o.guard with
 | none=>rw [hg] at hw; simpa using hw
 | some jw =>
  obtain ⟨j,want⟩:=jw
  rw [hg] at hw
  simp only at hw ⊢
  cases hd:(ops[j]?).bind (·.dst) with
  | none =>
   rw [hd] at hw
   simp only [yielded,hd,Option.bind_none] at hw ⊢
   simpa using hw
  | some t =>
   rw [hd] at hw
   simp only at hw
   cases hl:F.lookup t with
   | none=>rw [hl] at hw; cases hw
   | some v =>
    have hv:=h.2.2 t v hl
    rw [hl] at hw
    simp only [yielded,hd,Option.bind_some,hv]
    cases v <;> simp at hw ⊢ <;> exact hw
def good (ops:Array Oper) (n:Nat) (F:Slots) (o:Oper):Bool :=
 (wantedF ops F o == some true) && o.op.operands.all (inF F) && fits n o.dst && (match o.op with | .select ..=>false | _=>true)
theorem good_spec {ops:Array Oper} {n:Nat} {F:Slots} {o:Oper} (h:good ops n F o=true):wantedF ops F o=some true∧(∀ x∈o.op.operands,inF F x=true)∧fits n o.dst=true∧∀ cs b,o.op≠.select cs b:=by
 unfold good at h
 simp only [Bool.and_eq_true,beq_iff_eq] at h
 obtain ⟨⟨⟨h1,h2⟩,h3⟩,h4⟩:=h
 refine ⟨h1,Array.all_eq_true_iff_forall_mem.1 h2,h3,λcs b e=>?_⟩
 rw [e] at h4
 cases h4
theorem good_exec {ops:Array Oper} {n:Nat} {F:Slots} {o:Oper} (h:good ops n F o=true) {ds:List Deferred} {a:Act} (ha:Fr ds a n F):execOp a.eval o=execOp (evF F) o :=
 execOp_congr o (good_spec h).2.2.2 λx hx=>ha.eval ((good_spec h).2.1 x (by simpa using hx))
def Quiet (P:Program) (w0:Base) (F:Slots) (L:Blocks) (o:Oper) (v:Value):Prop:=∀ w,St w0 w L→Gives P (execOp (evF F) o) v w
theorem Quiet.pure {P:Program} {w0:Base} {F:Slots} {L:Blocks} {o:Oper} {v:Value} (h:∀ w,(execOp (evF F) o).run P w=.ok (.value v) w):Quiet P w0 F L o v:=λw _=>by
 unfold Gives; rw [h w]; exact ⟨rfl,Gr.refl _⟩
theorem Quiet.cell {P:Program} {w0:Base} {F:Slots} {L:Blocks} {o:Oper} (i g f:Nat) (t ty:TypeId) (cs:Array Value) (d:TypeDesc) (x:Operand) (ho:o.op=.load ty x) (hx:evF F x=.pointer (some ⟨g,f,none⟩))
  (hL:L[i]? = some (g,t,cs)) (hu:P.underlying ty=some d) (hd:d.isRow=false) (v:Value) (hv:cs[f]? = some v):Quiet P w0 F L o v:=λw hw=>by
 have hb:=hw.get hL
 have hc:w.cell? ⟨g,f,none⟩=some v:=(hb.cell f).trans hv
 have ha:(isAgg ty).run P w=.ok false w:=by
  cases d <;> first | (cases hd; done) | simp [isAgg,underlying,hu]
 unfold Gives execOp
 simp only [ho,hx,Instr.loadAt,Instr.sureAddr,Sem.run_bind,Sem.run_pure,Result.andThen_ok,loadVar,ha,Bool.false_eq_true,if_false,run_load,hc]
 exact ⟨trivial,Gr.refl _⟩
section
variable {P:Program} {w0:Base} {n:Nat}
def wpC (P:Program) (w0:Base) (n:Nat) (Q:Exit→Act→World→Prop) (F:Slots) (L:Blocks) (c:Code):Prop:=∀ a w,Fr w0.ds a n F→St w0 w L→c.wpIn w0.fence w0.room P Q a w
def wpS (P:Program) (w0:Base) (n:Nat) (ops:Array Oper) (Q:Exit→Act→World→Prop) (F:Slots) (L:Blocks) (l:List Oper):Prop:=∀ a w,Fr w0.ds a n F→St w0 w L→wpList P ops Q l a w
def wpD (P:Program) (w0:Base) (n:Nat) (ops:Array Oper) (Q:Exit→Act→World→Prop) (ex:Nat→Bool) (F:Slots) (L:Blocks) (fuel:Nat) (listed:Array Bool):Prop:=∀ a w,Fr w0.ds a n F→St w0 w L→wpAnyG P .any ops Q ex fuel listed a w
def X (w0:Base) (n:Nat) (Q:Exit→Act→World→Prop) (F:Slots) (L:Blocks) (e:Exit):Prop:=∀ a w,Fr w0.ds a n F→St w0 w L→Q e a w
variable {Q:Exit→Act→World→Prop} {F:Slots} {L:Blocks}
theorem seq {x y:Code} (h:wpC P w0 n (Exit.then (y.wpIn w0.fence w0.room P Q) Q) F L x):wpC P w0 n Q F L (.seq x y):=λa w ha hw=>wpIn_seq (h a w ha hw)
theorem then_ {y:Code} (h:wpC P w0 n Q F L y):X w0 n (Exit.then (y.wpIn w0.fence w0.room P Q) Q) F L .normal:=h
theorem then_ret {K:Act→World→Prop} (h:X w0 n Q F L .ret):X w0 n (Exit.then K Q) F L .ret:=h
theorem then_exit {K:Act→World→Prop} {i:Nat} (h:X w0 n Q F L (.exit i)):X w0 n (Exit.then K Q) F L (.exit i):=h
theorem block {i:Nat} {c:Code} (h:wpC P w0 n (Exit.inBlock i Q) F L c):wpC P w0 n Q F L (.block i c):=λa w ha hw=>wpIn_block (h a w ha hw)
theorem in_ {i:Nat} (h:X w0 n Q F L .normal):X w0 n (Exit.inBlock i Q) F L .normal:=h
theorem in_exit {i:Nat} (h:X w0 n Q F L .normal):X w0 n (Exit.inBlock i Q) F L (.exit i):=λa w ha hw=>by
 show if i=i then Q .normal a w else Q (.exit i) a w
 rw [if_pos rfl]; exact h a w ha hw
theorem skip (h:X w0 n Q F L .normal):wpC P w0 n Q F L .skip:=λa w ha hw=>wpIn_skip (h a w ha hw)
theorem ret (h:X w0 n Q F L .ret):wpC P w0 n Q F L .ret:=λa w ha hw=>wpIn_ret (h a w ha hw)
theorem exit {i:Nat} (h:X w0 n Q F L (.exit i)):wpC P w0 n Q F L (.exit i):=λa w ha hw=>wpIn_exit (h a w ha hw)
theorem cond_t {c:Operand} {x y:Code} (hi:inF F c=true) (hc:evF F c=.bool true) (h:wpC P w0 n Q F L x):wpC P w0 n Q F L (.cond c x y):=λa w ha hw=>wpIn_cond_true ((ha.eval hi).trans hc) (h a w ha hw)
theorem cond_f {c:Operand} {x y:Code} (hi:inF F c=true) (hc:evF F c=.bool false) (h:wpC P w0 n Q F L y):wpC P w0 n Q F L (.cond c x y):=λa w ha hw=>wpIn_cond_false ((ha.eval hi).trans hc) (h a w ha hw)
variable {ops:Array Oper} {o:Oper} {l:List Oper}
theorem region {i:Nat} (h:wpS P w0 n ops Q F L ops.toList) (hf:w0.fence=Fence.wide:=by rfl):wpC P w0 n Q F L (.region i ops false):=λa w ha hw=>by
 rw [hf]
 exact wpIn_wide.2 (wp_region_list (h a w ha hw))
theorem nil (h:X w0 n Q F L .normal):wpS P w0 n ops Q F L []:=λa w ha hw=>wpList_nil (h a w ha hw)
theorem step (hg:good ops n F o=true) (v:Value) (hq:Quiet P w0 F L o v) (h:wpS P w0 n ops Q (putF F o.dst v) L l):wpS P w0 n ops Q F L (o::l):=λa w ha hw=>by
 obtain ⟨g1,_,g3,_⟩:=good_spec hg
 refine wpList_step λK hK=>?_
 rw [if_pos (ha.wanted g1)]
 have h0:=hq w hw
 have he:=good_exec hg ha
 unfold Gives at h0
 unfold Oper.wp
 rw [he]
 generalize (execOp (evF F) o).run P w=r at *
 cases r with
 | ok x w' =>
  cases x <;> simp only [Oper.upon] at h0 ⊢
  case value u=>rw [h0.1]; exact hK _ _ (h _ _ (ha.put g3 v) (hw.gr h0.2))
  case skip=>rw [← h0.1]; exact hK _ _ (h _ _ (ha.put g3 v) (hw.gr h0.2))
  case enter f args =>
   refine Calls.mono h0 λe w'' he=>?_
   rw [he.1]
   exact hK _ _ (h _ _ (ha.put g3 v) (hw.gr he.2))
 | halt x w'=>cases x <;> exact h0.elim
theorem pass (hg:wantedF ops F o=some false) (hd:fits n o.dst=true) (h:wpS P w0 n ops Q (putF F o.dst undef) L l):wpS P w0 n ops Q F L (o::l):=λa w ha hw=>by
 refine wpList_step λK hK=>?_
 rw [if_neg (by rw [ha.wanted hg]; exact Bool.false_ne_true)]
 exact hK _ _ (h _ _ (ha.put hd undef) hw)
def Writes (P:Program) (F:Slots) (o:Oper) (g:Nat) (t:TypeId) (cs cs':Array Value):Prop :=
 ∀ w,Blk w g t cs→∃ w',(execOp (evF F) o).run P w=.ok .skip w'∧w.grownBy w' (some g)∧Blk w' g t cs'
variable {ex:Nat→Bool} {fuel:Nat} {listed:Array Bool}
theorem regionD {i:Nat} (ex:Nat→Bool) (hm:P.follows .mixedOrders=true) (h:wpD P w0 n ops Q ex F L ops.size (Array.replicate ops.size false)) (hf:w0.fence=Fence.wide:=by rfl):wpC P w0 n Q F L (.region i ops true):=λa w ha hw=>by
 rw [hf]
 exact wpIn_wide.2 (wp_region_G ex hm (h a w ha hw))
theorem doneD (hr:Region.ready .any ops listed=[]) (h:X w0 n Q F L .normal):wpD P w0 n ops Q ex F L fuel listed:=λa _ ha hw=>wpAnyG_done hr λw1 h1=>h a w1 ha (hw.gr h1)
theorem quiet_yields {o:Oper} {v:Value} {a:Act} {w:World} (hg:good ops n F o=true) (hq:Quiet P w0 F L o v) (ha:Fr w0.ds a n F) (hw:St w0 w L):YieldsG P ops o v a w :=
 .inl ⟨ha.wanted (good_spec hg).1,λw1 h1=>by rw [good_exec hg ha]; exact hq w1 (hw.gr h1)⟩
theorem stepD (i:Nat) {oi:Oper} (hi0:ops.toList[i]? = some oi) (hc:canTake .any ops listed ex i=true) (hQ:∀ c v a w,Q (.panic c) (a.put oi.dst v) w→Q (.panic c) a w)
  (hg:good ops n F oi=true) (v:Value) (hq:Quiet P w0 F L oi v) (h:wpD P w0 n ops Q ex (putF F oi.dst v) L fuel (listed.setIfInBounds i true)):wpD P w0 n ops Q ex F L (fuel+1) listed:=λ_ _ ha hw =>
 wpAnyG_take i hi0 hc (λc=>hQ c v) (quiet_yields hg hq ha hw) (h _ _ (ha.put (good_spec hg).2.2.1 v) hw)
theorem stepDA (i:Nat) {oi:Oper} (hi0:ops.toList[i]? = some oi) (hc:canTakeA .any ops listed i=true) (hQ:∀ c v a w,Q (.panic c) (a.put oi.dst v) w→Q (.panic c) a w)
  (hg:good ops n F oi=true) (v:Value) (hq:∀ w,(execOp (evF F) oi).run P w=.ok (.value v) w) (h:wpD P w0 n ops Q ex (putF F oi.dst v) L fuel (listed.setIfInBounds i true)):wpD P w0 n ops Q ex F L (fuel+1) listed:=λa w ha hw =>
 wpAnyG_takeA i hi0 hc (λc=>hQ c v) (λw'=>.inl ⟨ha.wanted (good_spec hg).1,λw1 _=>by rw [good_exec hg ha]; unfold Gives; rw [hq w1]; exact ⟨rfl,Gr.refl _⟩⟩) (h _ _ (ha.put (good_spec hg).2.2.1 v) hw)
theorem writeD (k:Nat) {oi:Oper} (hi0:ops.toList[k]? = some oi) (hr:Region.ready .any ops listed=[k]) (hex:ex k=true) (hg:good ops n F oi=true) (i g:Nat) (t:TypeId) (cs cs':Array Value) (hL:L[i]? = some (g,t,cs)) (hm:Writes P F oi g t cs cs')
  (h:wpD P w0 n ops Q ex (putF F oi.dst undef) (L.set i (g,t,cs')) fuel (listed.setIfInBounds k true)):wpD P w0 n ops Q ex F L (fuel+1) listed:=λa w ha hw =>
 wpAnyG_sole k hi0 hr (ha.wanted (good_spec hg).1) λw1 h1 K hK=>by
  obtain ⟨w',e1,e2,e3⟩:=hm w1 ((hw.gr h1).get hL)
  unfold Oper.wp
  rw [good_exec hg ha,e1]
  exact hK _ _ (λe=>by rw [hex] at e; cases e) (h _ _ (ha.put (good_spec hg).2.2.1 _) ((hw.gr h1).set hL e2 e3))
def Gets (w0:World) (v:Value) (e:Ending) (w':World):Prop:=e=.returned v∧Below w0.heap.size w0 w'
def slotsOf:Nat→List Value→Slots
 | _,[]=>[]
 | i,v::r=>(i,v)::slotsOf (i+1) r
theorem lookup_slotsOf:∀ (l:List Value) (i j:Nat) (v:Value),(slotsOf i l).lookup j=some v→i≤j∧l[j - i]? = some v
 | [],_,_,_,h=>by cases h
 | u::r,i,j,v,h=>by
  simp only [slotsOf,List.lookup_cons] at h
  by_cases e:j=i
  ·subst e
   simp at h
   subst h
   exact ⟨Nat.le_refl _,by simp⟩
  ·have e':(j == i)=false:=by simpa using e
   rw [e'] at h
   obtain ⟨h1,h2⟩:=lookup_slotsOf r (i+1) j v h
   refine ⟨by omega,?_⟩
   rw [show j - i=(j - (i+1))+1 by omega]
   simpa using h2
theorem enter {f:FuncId} {fn:Func} {c:Code} {args:List Value} {w:World} {R:Ending→World→Prop} (hf:P.funcs[f]? = some fn) (hb:fn.body=some c) (hn:args.length≤fn.ntmps)
  (h:wpC P (Base.of w) fn.ntmps (bodyPost P fn R) (slotsOf 0 args) [] c):Calls P f args.toArray w R :=
 calls_of_wp hf hb (wpIn_wide.1 (h _ _ ⟨rfl,by simp; omega,λi v hi=>by
  have:=(lookup_slotsOf args 0 i v hi).2
  rw [Nat.sub_zero] at this
  have hl:=(List.getElem?_eq_some_iff.1 this).1
  rw [Array.getElem?_append_left (by simpa using hl)]
  simpa using this⟩ (St.start w)))
def Res (P:Program) (F:Slots) (L:Blocks) (r:ResultVar) (v:Value):Prop :=
 match r with
 | .tmp t=>F.lookup t=some v
 | .cell t ty=>∃ (g i:Nat) (ty':TypeId) (cs:Array Value) (d:TypeDesc),F.lookup t=some (.pointer (some ⟨g,0,none⟩))∧L[i]? = some (g,ty',cs)∧P.underlying ty=some d∧d.isRow=true∧(P.info? ty).map (·.size)=some cs.size∧v=.agg cs
def ResC (P:Program) (F:Slots) (L:Blocks) (t:Tmp) (ty:TypeId) (v:Value):Prop :=
 ∃ (g i:Nat) (ty':TypeId) (cs:Array Value) (d:TypeDesc),F.lookup t=some (.pointer (some ⟨g,0,none⟩))∧L[i]? = some (g,ty',cs)∧P.underlying ty=some d∧d.isRow=false∧cs[0]? = some v
abbrev Has (P:Program) (F:Slots) (L:Blocks) (r:ResultVar) (v:Value):Prop:=Res P F L r v∨∃ t ty,r=.cell t ty∧ResC P F L t ty v
theorem Res.run {ds:List Deferred} {a:Act} {w:World} {r:ResultVar} {v:Value} (h:Has P F L r v) (ha:Fr ds a n F) (hw:St w0 w L) :
  (∃ t,r=.tmp t∧a.tmps[t]?.getD undef=v)∨∃ t ty ad,r=.cell t ty∧(asAddr (a.tmps[t]?.getD undef)).run P w=.ok ad w∧(loadVar ty ad).run P w=.ok v w:=by
 rcases h with h | ⟨t,ty,rfl,g,i,ty',cs,d,h1,h2,h3,h4,h5⟩
 ·cases r with
  | tmp t=>exact .inl ⟨t,rfl,by simp [ha.2.2 t v h]⟩
  | cell t ty =>
   obtain ⟨g,i,ty',cs,d,h1,h2,h3,h4,h5,rfl⟩:=h
   have e2:=run_loadVar_row (P:=P) w g ty' ty cs (0,0) d (hw.get h2) h3 (by cases d <;> first | rfl | cases h4) h5
   exact .inr ⟨t,ty,⟨g,0,none⟩,rfl,by simp [ha.2.2 t _ h1,asAddr],e2⟩
 ·have hb:=hw.get h2
  have hc:w.cell? ⟨g,0,none⟩=some v:=(hb.cell 0).trans h5
  have hag:(isAgg ty).run P w=.ok false w:=by
   cases d <;> first | (cases h4; done) | simp [isAgg,underlying,h3]
  exact .inr ⟨t,ty,⟨g,0,none⟩,rfl,by simp [ha.2.2 t _ h1,asAddr],by simp [loadVar,hag,hc,Result.andThen]⟩
theorem ret1 {w1:World} {fn:Func} {r:ResultVar} {v:Value} (hr:fn.results=#[r]) (h:Has P F L r v):X (Base.of w1) n (bodyPost P fn (Gets w1 v)) F L .ret:=λa w ha hw=>by
 refine bodyPost_ret (v:=v) ?_ ha.1 ⟨rfl,hw.below⟩
 rcases Res.run h ha hw with ⟨t,rfl,e1⟩ | ⟨t,ty,ad,rfl,e1,e2⟩ <;> simp [results,Result.andThen, *]
end
end Sy
end
section
namespace Sy
open Go.RowKit
theorem St.setNew {w0:Base} {w w':World} {L:Blocks} (h:St w0 w L) (hg:Gr w w') {i g:Nat} {t:TypeId} {cs:Array Value} (hi:i<L.length) (hn:w.heap.size≤g) (hb:Blk w' g t cs):St w0 w' (L.set i (g,t,cs)):=by
 have h':=h.gr hg
 refine ⟨h'.below,λg1 t1 c1 hm=>?_,?_,h'.size,h'.non⟩
 ·rcases List.mem_or_eq_of_mem_set hm with hm | e
  ·exact ⟨(h.blk g1 t1 c1 hm).1,hg.blk (h.blk g1 t1 c1 hm).2⟩
  ·obtain ⟨rfl,rfl,rfl⟩:g1=g∧t1=t∧c1=cs:=by simpa using e
   exact ⟨Nat.le_trans h.below.size hn,hb⟩
 ·rw [List.map_set]
  have hlt:∀ x∈L.map (·.1),x<g:=λx hx=>by
   obtain ⟨⟨g1,t1,c1⟩,hm,rfl⟩:=List.mem_map.1 hx
   exact Nat.lt_of_lt_of_le (h.blk g1 t1 c1 hm).2.lt hn
  have hp:=h.apart
  generalize L.map (·.1)=l at hlt hp
  clear h hb hi
  induction l generalizing i with
  | nil=>exact List.Pairwise.nil
  | cons x l ih =>
   obtain ⟨h1,h2⟩:=List.nodup_cons.1 hp
   cases i with
   | zero =>
    refine List.nodup_cons.2 ⟨λhm=>?_,h2⟩
    have:=hlt g (List.mem_cons_of_mem _ hm)
    omega
   | succ i =>
    refine List.nodup_cons.2 ⟨λhm=>?_,ih (λy hy=>hlt y (List.mem_cons_of_mem _ hy)) h2⟩
    rcases List.mem_or_eq_of_mem_set hm with hm | e
    ·exact h1 hm
    ·have:=hlt x (List.mem_cons_self ..)
     omega
theorem addr_off (b f q:Nat):(⟨b,f,none⟩:Addr).add q=⟨b,f+q,none⟩:=by unfold Addr.add; split <;> simp_all
section
variable {P:Program} {w0:Base} {n:Nat} {Q:Exit→Act→World→Prop} {F:Slots} {L:Blocks} {ops:Array Oper} {o:Oper} {l:List Oper}
theorem Quiet.callS {v:Value} (f:FuncId) (args:Array Value) (he:∀ w,(execOp (evF F) o).run P w=.ok (.enter f args) w)
  (h:∀ w,St w0 w L→Calls P f args w (Gets w v)):Quiet P w0 F L o v:=λw hw=>by
 unfold Gives; rw [he w]; exact h w hw
theorem Writes.one (f:Nat) {g:Nat} {t:TypeId} {cs cs':Array Value} (ty:TypeId) (v:Value) (x y:Operand) (ho:o.op=.store ty x y) (hx:evF F x=.pointer (some ⟨g,f,none⟩)) (hy:evF F y=v)
  (hi:(P.info? ty).map (·.size)=some 1) (hv:v.cells=#[v]) (h1:v.oneCell'=true) (hk:f<cs.size) (hcs:cs.setIfInBounds f v=cs'):Writes P F o g t cs cs' :=
 λw hb=>⟨w.setCell ⟨g,f,none⟩ v,by
  have hth:=hb.there f 1 hk
  have hst:=run_storeCells_cells (P:=P) g f [v] 0 w (λj hj=>by simpa using (hth j hj).1) (λj hj=>by simpa using (hth j hj).2) (λu hu=>by rw [List.mem_singleton.1 hu]; exact h1)
  unfold execOp
  cases hq:P.info? ty with
  | none=>simp [hq] at hi
  | some i =>
   have hs:i.size=1:=by simpa [hq] using hi
   simp only [World.setCells,Nat.add_zero] at hst
   simp [ho,hx,hy,Instr.storeAt,Instr.sureAddr,storeVar,sizeOf,typeInfo,hq,hs,hv,hst,Result.andThen],
  only_setCell (World.grownBy.refl w (some g)) (.inl rfl) v,hcs ▸ hb.set_ f v⟩
theorem loopI {c:Code} (N:Nat) (I:Nat→Act→World→Prop) (h0:∀ a w,Fr w0.ds a n F→St w0 w L→I 0 a w)
  (hr:∀ i,i≤N→∀ a w,I i a w→c.wpIn w0.fence w0.room P (Exit.then (λa w=>i<N∧I (i+1) a w) Q) a w):wpC P w0 n Q F L (.loop c):=λa w ha hw=>by
 refine wpIn_loop_rounds (N+1) ?_
 have key:∀ k i,i+k=N→∀ a w,I i a w→Code.roundsIn w0.fence w0.room P c Q (k+1) a w:=by
  intro k
  induction k with
  | zero =>
   intro i hi a w h
   refine wpIn_mono (hr i (by omega) a w h) λe a w hq=>?_
   cases e <;> first | exact hq | exact absurd hq.1 (by omega)
  | succ k ih =>
   intro i hi a w h
   refine wpIn_mono (hr i (by omega) a w h) λe a w hq=>?_
   cases e <;> first | exact hq | exact ih (i+1) (by omega) a w hq.2
 exact key N 0 (by omega) a w (h0 a w ha hw)
theorem lookup_all:∀ (G:Slots),(∀ p∈G,F.lookup p.1=some p.2)→∀ i v,G.lookup i=some v→F.lookup i=some v
 | [],_,_,_,h=>by cases h
 | (q,u)::G,hG,i,v,h=>by
  simp only [List.lookup_cons] at h
  by_cases e:i=q
  ·subst e
   simp at h
   subst h
   exact hG (i,u) (List.mem_cons_self ..)
  ·have e':(i == q)=false:=by simpa using e
   rw [e'] at h
   exact lookup_all G (λp hp=>hG p (List.mem_cons_of_mem _ hp)) i v h
theorem Fr.all {ds:List Deferred} {a:Act} (h:Fr ds a n F) {G:Slots} (hG:∀ p∈G,F.lookup p.1=some p.2):Fr ds a n G:=h.less (lookup_all G hG)
theorem all_nil:∀ p∈([]:Slots),F.lookup p.1=some p.2:=λ_ h=>by cases h
theorem all_cons {G:Slots} {i:Nat} {v:Value} (h:F.lookup i=some v) (hG:∀ p∈G,F.lookup p.1=some p.2):∀ p∈(i,v)::G,F.lookup p.1=some p.2:=λp hp=>by
 rcases List.mem_cons.1 hp with rfl | hp
 ·exact h
 ·exact hG p hp
theorem Quiet.thereOne (g f:Nat) (ty:TypeId) (d:TypeDesc) (x:Operand) (ho:o.op=.load ty x) (hx:evF F x=.pointer (some ⟨g,f,none⟩)) (hg:g<w0.world.heap.size) (v:Value) (hr:w0.world.cell? ⟨g,f,none⟩=some v)
  (hu:P.underlying ty=some d) (hd:d.isRow=false):Quiet P w0 F L o v:=λw hw=>by
 have hc:w.cell? ⟨g,f,none⟩=some v:=(Below.cell (p:=⟨g,f,none⟩) hw.below hg).trans hr
 have ha:(isAgg ty).run P w=.ok false w:=by
  cases d <;> first | (cases hd; done) | simp [isAgg,underlying,hu]
 unfold Gives execOp
 simp only [ho,hx,Instr.loadAt,Instr.sureAddr,Sem.run_bind,Sem.run_pure,Result.andThen_ok,loadVar,ha,Bool.false_eq_true,if_false,run_load,hc]
 exact ⟨trivial,Gr.refl _⟩
end
end Sy
end
section
namespace Sy
open Go.RowKit
section
variable {P:Program} {w0:Base} {n:Nat} {Q:Exit→Act→World→Prop} {F:Slots} {L:Blocks} {ops:Array Oper} {o:Oper} {l:List Oper} {ex:Nat→Bool} {fuel:Nat} {listed:Array Bool}
end
end Sy
end
section
namespace Sy
open Go.RowKit
section
variable {s:Nat} {f:Nat→List Value}
end
section
variable {s n k:Nat} {A:Nat→List Value} {z:List Value}
end
section
variable {s n m:Nat} {f:Nat→List Value}
end
section
variable {P:Program} {w0:Base} {n:Nat} {Q:Exit→Act→World→Prop} {F:Slots} {L:Blocks} {ops:Array Oper} {o:Oper} {l:List Oper}
theorem exec_int (op:BinOp) (t:TypeId) (x y:Operand) {yt:TypeId} (k:IntKind) {k':IntKind} (a b:Int) (v:Value) (ho:o.op=.binOp op t x y yt) (hx:evF F x=.int k a) (hy:evF F y=.int k' b) (h:∀ w,(binOp op t (.int k a) (.int k' b)).run P w=.ok v w) (w:World) :
  (execOp (evF F) o).run P w=.ok (.value v) w:=by
 have h1:(eqGuard op t x y (.int k a) (.int k' b)).run P w=.ok () w:=by
  unfold eqGuard
  cases op <;> rfl
 unfold execOp
 simp only [ho,hx,hy,Sem.run_bind,h1,h w,Result.andThen_ok,Sem.run_pure]
theorem wrap_i64 {z:Int} (h0 : -9223372036854775808≤z) (h1:z<9223372036854775808):IntKind.i64.wrap z=z:=by
 unfold IntKind.wrap; simp [IntKind.bits,IntKind.signed]; omega
theorem wrap_u8 {z:Int} (h0:0≤z) (h1:z<256):IntKind.u8.wrap z=z:=by
 unfold IntKind.wrap; simp [IntKind.bits,IntKind.signed]; omega
theorem int_add (t:TypeId) (k:IntKind) (a b c:Int) (h:k.wrap (a+b)=c) (w:World):(binOp .add t (.int k a) (.int k b)).run P w=.ok (.int k c) w:=by simp [binOp,Op.intArith,h]
theorem int_quo (t:TypeId) (k:IntKind) (a b c:Int) (hb:b≠0) (h:k.wrap (a.tdiv b)=c) (w:World):(binOp .quo t (.int k a) (.int k b)).run P w=.ok (.int k c) w:=by simp [binOp,Op.intDiv,hb,h]
theorem int_rem (t:TypeId) (k:IntKind) (a b c:Int) (hb:b≠0) (h:a.tmod b=c) (w:World):(binOp .rem t (.int k a) (.int k b)).run P w=.ok (.int k c) w:=by simp [binOp,Op.intDiv,hb,h]
theorem int_and (t:TypeId) (k:IntKind) (a b c:Int) (h:k.wrap ((BitVec.ofInt k.bits a &&& BitVec.ofInt k.bits b).toNat:Int)=c) (w:World):(binOp .and t (.int k a) (.int k b)).run P w=.ok (.int k c) w:=by
 simp only [binOp,ne_eq,not_true_eq_false,if_false,Op.intBits,Sem.run_pure]
 rw [h]
theorem int_xor (t:TypeId) (k:IntKind) (a b c:Int) (h:k.wrap ((BitVec.ofInt k.bits a ^^^ BitVec.ofInt k.bits b).toNat:Int)=c) (w:World):(binOp .xor t (.int k a) (.int k b)).run P w=.ok (.int k c) w:=by
 simp only [binOp,ne_eq,not_true_eq_false,if_false,Op.intBits,Sem.run_pure]
 rw [h]
theorem int_shr (t:TypeId) (k k':IntKind) (a b c:Int) (hb:¬ b<0) (h:a.fdiv (2 ^ min b.toNat k.bits)=c) (w:World):(binOp .shr t (.int k a) (.int k' b)).run P w=.ok (.int k c) w:=by
 simp only [binOp,Op.shift,if_neg hb,Sem.run_pure,h]
theorem int_lss (t:TypeId) (k:IntKind) (a b:Int) (c:Bool) (h:decide (a<b)=c) (w:World):(binOp .lss t (.int k a) (.int k b)).run P w=.ok (.bool c) w:=by simp [binOp,Op.intCmp, ← h]
theorem int_geq (t:TypeId) (k:IntKind) (a b:Int) (c:Bool) (h:decide (a ≥ b)=c) (w:World):(binOp .geq t (.int k a) (.int k b)).run P w=.ok (.bool c) w:=by simp [binOp,Op.intCmp, ← h]
theorem int_eql (t:TypeId) (k:IntKind) (a b:Int) (c:Bool) (h:decide (a=b)=c) (w:World):(binOp .eql t (.int k a) (.int k b)).run P w=.ok (.bool c) w:=by
 simp only [binOp,ne_eq,not_true_eq_false,if_false,Op.intCmp,Sem.run_pure, ← h]
 rfl
theorem int_neq (t:TypeId) (k:IntKind) (a b:Int) (c:Bool) (h:decide (a≠b)=c) (w:World):(binOp .neq t (.int k a) (.int k b)).run P w=.ok (.bool c) w:=by
 simp only [binOp,ne_eq,not_true_eq_false,if_false,Op.intCmp,Sem.run_pure, ← h]
 by_cases e:a=b <;> simp [e]
theorem exec_at (t e:TypeId) (x kx:Operand) (g f len cap k s:Nat) (ki:IntKind) (ho:o.op=.indexAddr t x kx) (hx:evF F x=.slice (some ⟨g,f,none⟩) len cap) (hkx:evF F kx=.int ki (k:Int)) (ht:P.underlying t=some (.slice e)) (hsz:∀ w,(sizeOf e).run P w=.ok s w) (hk:k<len) (w:World) :
  (execOp (evF F) o).run P w=.ok (.value (.pointer (some ⟨g,f+k*s,none⟩))) w:=by
 have h0:(0:Int)≤k:=by omega
 have h1:((k:Int).toNat)=k:=by omega
 unfold execOp
 simp [ho,hx,hkx,Instr.indexAt,asIntOf,run_underlying ht,hsz,h0,hk,addr_off,Result.andThen]
def NextX {T:Type} (w0:Base) (n N:Nat) (FF:Nat→T→Slots) (LL:Nat→T→Blocks) (H:Nat→T→Prop) (k:Nat):Act→World→Prop:=λa w=>k<N∧∃ y,H (k+1) y∧Fr w0.ds a n (FF (k+1) y)∧St w0 w (LL (k+1) y)
end
end Sy
end
section
namespace Sy
open Go.RowKit
abbrev Base.re (w0:Base) (w:World):Base:=⟨w0.world,w,w0.ds,w0.fence,w0.room⟩
section
variable {P:Program} {w0 fz0:World} {n:Nat} {Q:Exit→Act→World→Prop} {F:Slots} {L:Blocks}
end
end Sy
end
section
namespace Sy
open Go.RowKit
section
variable {P:Program} {W:World} {m n:Nat} {Q:Exit→Act→World→Prop} {F:Slots} {L:Blocks} {ops:Array Oper} {o:Oper} {rest:List Oper}
end
end Sy
end
section
namespace Sy
open Go.RowKit
section
variable {P:Program} {w0 fz0:World} {n:Nat} {Q:Exit→Act→World→Prop} {F:Slots} {L:Blocks}
end
end Sy
end
section
namespace Sy
open Go.RowKit
section
variable {P:Program} {w0:Base} {n:Nat} {Q:Exit→Act→World→Prop} {F:Slots} {L:Blocks} {ops:Array Oper} {o:Oper} {l:List Oper}
theorem sS (v:Value) (hq:Quiet P w0 F L o v) (h:wpS P w0 n ops Q (putF F o.dst v) L l) (hg:good ops n F o=true:=by kernel_rfl):wpS P w0 n ops Q F L (o::l):=step hg v hq h
theorem sN (h:wpS P w0 n ops Q (putF F o.dst undef) L l) (hg:wantedF ops F o=some false:=by kernel_rfl) (hd:fits n o.dst=true:=by kernel_rfl):wpS P w0 n ops Q F L (o::l):=pass hg hd h
variable {ex:Nat→Bool} {fuel:Nat} {listed:Array Bool}
theorem sD (i:Nat) {oi:Oper} (hi0:ops.toList[i]? = some oi) (v:Value) (hq:Quiet P w0 F L oi v) (h:wpD P w0 n ops Q ex (putF F oi.dst v) L fuel (listed.setIfInBounds i true)) (hc:canTake .any ops listed ex i=true:=by kernel_rfl)
  (hg:good ops n F oi=true:=by kernel_rfl) (hQ:∀ c v a w,Q (.panic c) (a.put oi.dst v) w→Q (.panic c) a w:=by exact λ_ _ _ _ h=>h):wpD P w0 n ops Q ex F L (fuel+1) listed:=stepD i hi0 hc hQ hg v hq h
theorem sE (h:X w0 n Q F L .normal) (hr:Region.ready .any ops listed=[]:=by kernel_rfl):wpD P w0 n ops Q ex F L fuel listed:=doneD hr h
theorem sT {c:Operand} {x y:Code} (h:wpC P w0 n Q F L x) (hi:inF F c=true:=by kernel_rfl) (hc:evF F c=.bool true:=by kernel_rfl):wpC P w0 n Q F L (.cond c x y):=cond_t hi hc h
theorem sU {c:Operand} {x y:Code} (h:wpC P w0 n Q F L y) (hi:inF F c=true:=by kernel_rfl) (hc:evF F c=.bool false:=by kernel_rfl):wpC P w0 n Q F L (.cond c x y):=cond_f hi hc h
theorem sC {i:Nat} {y:Code} (h:wpS P w0 n ops (Exit.then (y.wpIn w0.fence w0.room P Q) Q) F L ops.toList) (hf:w0.fence=Fence.wide:=by rfl):wpC P w0 n Q F L (.seq (.region i ops false) y):=seq (region h hf)
theorem sB {i:Nat} {y:Code} (h:wpS P w0 n ops (Exit.then (y.wpIn w0.fence w0.room P Q) Q) F L ops.toList) (hf:w0.fence=Fence.wide:=by rfl):X w0 n (Exit.then ((Code.seq (.region i ops false) y).wpIn w0.fence w0.room P Q) Q) F L .normal:=then_ (sC h hf)
theorem sA {i:Nat} {y:Code} {ops0:Array Oper} (h:wpS P w0 n ops (Exit.then (y.wpIn w0.fence w0.room P Q) Q) F L ops.toList) (hf:w0.fence=Fence.wide:=by rfl):wpS P w0 n ops0 (Exit.then ((Code.seq (.region i ops false) y).wpIn w0.fence w0.room P Q) Q) F L []:=nil (sB h hf)
theorem sP (v:Value) (h:wpS P w0 n ops Q (putF F o.dst v) L l) (hp:∀ w,(execOp (evF F) o).run P w=.ok (.value v) w:=by intro _; kernel_rfl) (hg:good ops n F o=true:=by kernel_rfl):wpS P w0 n ops Q F L (o::l):=step hg v (Quiet.pure hp) h
theorem sZ (i:Nat) {oi:Oper} (hi0:ops.toList[i]? = some oi) (v:Value) (h:wpD P w0 n ops Q ex (putF F oi.dst v) L fuel (listed.setIfInBounds i true)) (hp:∀ w,(execOp (evF F) oi).run P w=.ok (.value v) w:=by intro _; kernel_rfl) (hc:canTake .any ops listed ex i=true:=by kernel_rfl)
  (hg:good ops n F oi=true:=by kernel_rfl) (hQ:∀ c v a w,Q (.panic c) (a.put oi.dst v) w→Q (.panic c) a w:=by exact λ_ _ _ _ h=>h):wpD P w0 n ops Q ex F L (fuel+1) listed:=stepD i hi0 hc hQ hg v (Quiet.pure hp) h
theorem sG {y:Code} {ops0:Array Oper} (h:wpC P w0 n Q F L y):wpS P w0 n ops0 (Exit.then (y.wpIn w0.fence w0.room P Q) Q) F L []:=nil (then_ h)
def opV (F:Slots):Op→Option Value
 | .move (.tmp t)=>F.lookup t
 | .assign (.tmp t)=>F.lookup t
 | .move (.const v)=>some v
 | .assign (.const v)=>some v
 | .nilCheck (.tmp t)=>match F.lookup t with | some (.pointer (some a))=>some (.pointer (some a)) | _=>none
 | .extract (.tmp t) i=>match F.lookup t with | some (.tuple vs)=>vs[i]? | _=>none
 | _=>none
theorem opV_run {v:Value} (h:opV F o.op=some v) (w:World):(execOp (evF F) o).run P w=.ok (.value v) w:=by
 unfold execOp
 generalize o.op=op at h
 unfold opV at h
 split at h
 ·simp [evF,h]
 ·simp [evF,h]
 ·cases h; simp [evF]
 ·cases h; simp [evF]
 ·split at h
  ·rename_i a e
   cases h
   simp [evF,e]
  ·cases h
 ·split at h
  ·rename_i vs e
   simp [evF,e,Instr.extract,h]
  ·cases h
 ·cases h
theorem sp {v:Value} (hl:opV F o.op=some v) (h:wpS P w0 n ops Q (putF F o.dst v) L l) (hg:good ops n F o=true:=by kernel_rfl):wpS P w0 n ops Q F L (o::l):=step hg v (Quiet.pure (opV_run hl)) h
theorem sz (i:Nat) {oi:Oper} (hi0:ops.toList[i]? = some oi) {v:Value} (hl:opV F oi.op=some v) (h:wpD P w0 n ops Q ex (putF F oi.dst v) L fuel (listed.setIfInBounds i true)) (hc:canTake .any ops listed ex i=true:=by kernel_rfl)
  (hg:good ops n F oi=true:=by kernel_rfl) (hQ:∀ c v a w,Q (.panic c) (a.put oi.dst v) w→Q (.panic c) a w:=by exact λ_ _ _ _ h=>h):wpD P w0 n ops Q ex F L (fuel+1) listed:=stepD i hi0 hc hQ hg v (Quiet.pure (opV_run hl)) h
theorem rV {w1:World} {fn:Func} {z:Tmp} (v:Value) (hr:fn.results=#[.tmp z]) (h:F.lookup z=some v:=by kernel_rfl):X (Base.of w1) n (bodyPost P fn (Gets w1 v)) F L .ret:=ret1 hr (.inl h)
end
end Sy
end
section
namespace Sy
open Go.RowKit
section
variable {P:Program} {w0:Base} {n:Nat} {Q:Exit→Act→World→Prop} {F:Slots} {L:Blocks} {ops:Array Oper} {o:Oper} {l:List Oper}
theorem qg {v:Value} {f:FuncId} {args:Array Value} (h:∀ w,St w0 w L→Calls P f args w (Gets w v)) (he:∀ w,(execOp (evF F) o).run P w=.ok (.enter f args) w:=by intro _; kernel_rfl):Quiet P w0 F L o v:=Quiet.callS f args he h
variable {ex:Nat→Bool} {fuel:Nat} {listed:Array Bool}
theorem sx {g:Nat} {t:TypeId} {cs:Array Value} (k:Nat) {oi:Oper} (hi0:ops.toList[k]? = some oi) (i:Nat) (hL:L[i]? = some (g,t,cs)) (cs':Array Value) (hm:Writes P F oi g t cs cs') (h:wpD P w0 n ops Q ex (putF F oi.dst undef) (L.set i (g,t,cs')) fuel (listed.setIfInBounds k true))
  (hr:Region.ready .any ops listed=[k]:=by kernel_rfl) (hex:ex k=true:=by rfl) (hg:good ops n F oi=true:=by kernel_rfl):wpD P w0 n ops Q ex F L (fuel+1) listed:=writeD k hi0 hr hex hg i g t cs cs' hL hm h
end
end Sy
end
section
namespace Sy
open Go.RowKit
section
variable {P:Program} {w0:Base} {n:Nat} {Q:Exit→Act→World→Prop} {F:Slots} {L:Blocks} {ops:Array Oper} {ex:Nat→Bool} {fuel:Nat} {listed:Array Bool}
end
end Sy
end
section
namespace Sy
open Go.RowKit
theorem St.perm {w0:Base} {w:World} {L M:Blocks} (h:St w0 w L) (p:L.Perm M):St w0 w M :=
 ⟨h.below,λg t cs hm=>h.blk g t cs (p.mem_iff.2 hm),(p.map _).nodup_iff.1 h.apart,h.size,h.non⟩
section
variable {P:Program} {w0:Base} {n:Nat} {Q:Exit→Act→World→Prop} {F:Slots} {L:Blocks} {ops:Array Oper} {ex:Nat→Bool} {fuel:Nat} {listed:Array Bool}
end
end Sy
end
section
namespace Sy
open Go.RowKit
section
variable {P:Program} {w0 fz0:World} {n:Nat} {Q:Exit→Act→World→Prop} {F:Slots} {L:Blocks}
variable {ops:Array Oper} {o:Oper} {rest:List Oper}
end
end Sy
end
section
namespace Sy
open Go.RowKit
section
variable {P:Program} {w0:Base} {n:Nat} {Q:Exit→Act→World→Prop} {F:Slots} {L:Blocks} {ops:Array Oper} {o:Oper} {l:List Oper}
def From (w0:Base) (L:Blocks) (A:Option Addr) (news:List Value):Prop:=∀ w,St w0 w L→(news=[]∨∃ a,A=some a∧∀ j u,news[j]? = some u→w.cell? (a.add j)=some u)
theorem appendG (hg:good ops n F o=true) (ts e:TypeId) (inf:TypeInfo) (z:Value) (sz by_:Nat) (ht:P.underlying ts=some (.slice e)) (hinf:P.info? e=some inf) (hz:inf.zero=some z) (hs1:inf.size=sz) (hb1:inf.bytes=by_) (hzs:z.cells.size=sz) (h0:0<sz)
  (s x:Operand) (ho:o.op=.call { callee:=.builtin .append,args:=#[s,x],argTypes:=#[ts,ts] })
  (i g len cap:Nat) (old sp:List Value) (hs:evF F s=.slice (some ⟨g,0,none⟩) len cap) (hL:L[i]? = some (g,e,(old++sp).toArray)) (hlen:old.length=len*sz) (hsp:sp.length+len*sz=cap*sz) (hmax:cap≤maxLen)
  (A:Option Addr) (m c:Nat) (news:List Value) (hx:evF F x=.slice A m c) (hf:From w0 L A news) (hm:news.length=m*sz) (hmc:m≤c) (h1:∀ u∈news,u.oneCell'=true) (hsmall:(len+m)*by_≤140737488355328) (h63:len+m≤maxLen)
  (h:∀ (g' cap':Nat) (sp':List Value),sp'.length+(len+m)*sz=cap'*sz→len+m≤cap'→cap'≤maxLen→wpS P w0 n ops Q (putF F o.dst (.slice (some ⟨g',0,none⟩) (len+m) cap')) (L.set i (g',e,(old++news++sp').toArray)) l):wpS P w0 n ops Q F L (o::l):=λa w ha hw=>by
 obtain ⟨k1,_,k3,_⟩:=good_spec hg
 refine wpList_step λK hK=>?_
 rw [if_pos (ha.wanted k1)]
 have hb:=hw.get hL
 have hle:len≤cap:=Nat.le_of_mul_le_mul_right (by omega) h0
 have step:∀ v' w',(Builtin.append_ #[ts,ts] o.type #[.slice (some ⟨g,0,none⟩) len cap,.slice A m c]).run P w=.ok v' w'→K (a.put o.dst v') w'→o.wp P a w K Q:=λv' w' hr hk=>by
  unfold Oper.wp
  rw [good_exec hg ha]
  unfold execOp
  simp only [ho,resolve,invoke,builtin,Sem.run_bind,Sem.run_pure,Result.andThen_ok,List.map_toArray,List.map_cons,List.map_nil,hs,hx,hr]
  exact hk
 rcases hf w hw with rfl | ⟨ad,rfl,hn⟩
 ·have hm0:m=0:=by
   rcases Nat.eq_zero_or_pos m with h | h
   ·exact h
   ·have:=Nat.mul_pos h h0
    simp at hm
    omega
  subst hm0
  have hr:(Builtin.append_ #[ts,ts] o.type #[.slice (some ⟨g,0,none⟩) len cap,.slice A 0 c]).run P w=.ok (.slice (some ⟨g,0,none⟩) len cap) w:=by
   have hfc:(Builtin.firstCells inf.size 0 (.slice A 0 c)).run P w=.ok #[] w:=by
    cases A with
    | none=>simp [Builtin.firstCells,Sem.run_pure]
    | some a=>simpa using run_firstCells_some (P:=P) w inf.size 0 a 0 c [] (by simp) (λj u hj=>by cases hj)
   have hst:∀ a:Addr,(storeCells a []).run P w=.ok () w:=λa=>by simp [storeCells,Sem.run_pure]
   simp [Builtin.append_,run_underlying ht,sizeOf,typeInfo,hinf,hle,Builtin.lenOf,hfc,hst]
  refine step _ w hr ?_
  have hset:L.set i (g,e,(old++[]++sp).toArray)=L:=by
   rw [List.append_nil]
   refine List.ext_getElem? λj=>?_
   rw [List.getElem?_set]
   by_cases e':i=j
   ·subst e'
    rw [if_pos rfl,if_pos (List.getElem?_eq_some_iff.1 hL).1,hL]
   ·rw [if_neg e']
  refine hK _ _ (h g cap sp (by simpa using hsp) (by omega) hmax _ _ (ha.put k3 _) ?_)
  rw [hset]
  exact hw
 ·have hown:w.ownsRow 0 e sz (.slice (some ⟨g,0,none⟩) len cap) len old:=⟨hlen,.inr ⟨g,cap,_,rfl,Nat.zero_le _,hb,hle,hmax,by rw [List.size_toArray,List.length_append]; omega,by show (old++sp).take _=old; rw [List.take_left' hlen]⟩⟩
  have last:∀ (w':World) (g' cap':Nat) (cur:Array Value),cur.size=cap'*sz→len+m≤cap'→cap'≤maxLen→cur.toList.take ((len+m)*sz)=old++news→St w0 w' (L.set i (g',e,cur))→K (a.put o.dst (.slice (some ⟨g',0,none⟩) (len+m) cap')) w':=λw' g' cap' cur h2 h2' h3 h4 h5=>by
   have hc:cur=(old++news++cur.toList.drop ((len+m)*sz)).toArray:=by
    rw [← h4,List.take_append_drop]
   rw [hc] at h5
   refine hK _ _ (h g' cap' _ ?_ h2' h3 _ _ (ha.put k3 _) h5)
   have h6:=Nat.mul_le_mul_right sz h2'
   rw [List.length_drop,Array.length_toList,h2]
   omega
  rcases Nat.lt_or_ge cap (len+m) with hlt | hge
  ·obtain ⟨v',w',hr,hrow,hgr⟩:=run_append_arg_grows (P:=P) w ts o.type e inf z sz by_ ht hinf hz hs1 hb1 hzs h0 ⟨g,0,none⟩ len cap old hlen (hown.cells (g:=g) rfl) ad m c news hm hn hlt h63 hsmall
   refine step v' w' hr ?_
   rcases hrow.2 with ⟨rfl,h0'⟩ | ⟨g',cap',cur,rfl,q1,q2,q3,q4,q5,q6⟩
   ·omega
   ·exact last w' g' cap' cur q5 q3 q4 q6 (hw.setNew (⟨hgr.os,hgr.tape,hgr.output,hgr.size,λk hk=>hgr.block k hk (by simp)⟩) (List.getElem?_eq_some_iff.1 hL).1 q1 q2)
  ·obtain ⟨w',hr,hrow,hgr⟩:=run_append_own_spare (P:=P) w 0 ts o.type e inf sz ht hinf hs1 g len cap old hown ad m c news hm hn h1 hge
   refine step _ w' hr ?_
   rcases hrow.2 with ⟨h0',_⟩ | ⟨g',cap',cur,hv,_,q2,q3,q4,q5,q6⟩
   ·cases h0'
   ·cases hv
    exact last w' g cap cur q5 q3 q4 q6 (hw.set hL hgr q2)
theorem appendGNil (hg:good ops n F o=true) (ts e:TypeId) (inf:TypeInfo) (z:Value) (sz by_:Nat) (ht:P.underlying ts=some (.slice e)) (hinf:P.info? e=some inf) (hz:inf.zero=some z) (hs1:inf.size=sz) (hb1:inf.bytes=by_) (hzs:z.cells.size=sz) (h0:0<sz)
  (s x:Operand) (ho:o.op=.call { callee:=.builtin .append,args:=#[s,x],argTypes:=#[ts,ts] }) (hs:evF F s=.slice none 0 0)
  (A:Option Addr) (m c:Nat) (news:List Value) (hx:evF F x=.slice A m c) (hf:From w0 L A news) (hm:news.length=m*sz) (hm0:0<m) (h1:∀ u∈news,u.oneCell'=true) (hsmall:m*by_≤140737488355328) (h63:m≤maxLen)
  (h:∀ (g' cap':Nat) (sp':List Value),sp'.length+m*sz=cap'*sz→m≤cap'→cap'≤maxLen→wpS P w0 n ops Q (putF F o.dst (.slice (some ⟨g',0,none⟩) m cap')) (L++[(g',e,(news++sp').toArray)]) l):wpS P w0 n ops Q F L (o::l):=λa w ha hw=>by
 obtain ⟨k1,_,k3,_⟩:=good_spec hg
 refine wpList_step λK hK=>?_
 rw [if_pos (ha.wanted k1)]
 rcases hf w hw with rfl | ⟨ad,rfl,hn⟩
 ·have:=Nat.mul_pos hm0 h0
  simp at hm
  omega
 obtain ⟨v',w',hr,hrow,hgr,hnil⟩:=run_append_own (P:=P) w w.heap.size ts o.type e inf z sz by_ ht hinf hz hs1 hb1 hzs h0 (.slice none 0 0) 0 [] (World.ownsRow_nil w _ e sz) ad m c news hm hn h1 (by omega) (by rw [Nat.zero_add]; exact hsmall) (Nat.le_refl _)
 rcases hrow.2 with ⟨_,h0'⟩ | ⟨g',cap',cur,rfl,q1,q2,q3,q4,q5,q6⟩
 ·omega
 have q6':cur.toList.take (m*sz)=news:=by simpa using q6
 unfold Oper.wp
 rw [good_exec hg ha]
 unfold execOp
 simp only [ho,resolve,invoke,builtin,Sem.run_bind,Sem.run_pure,Result.andThen_ok,List.map_toArray,List.map_cons,List.map_nil,hs,hx,hr]
 have hc:cur=(news++cur.toList.drop (m*sz)).toArray:=by rw [← q6',List.take_append_drop]
 rw [hc] at q2
 rw [Nat.zero_add] at q3 ⊢
 refine hK _ _ (h g' cap' _ ?_ q3 q4 _ _ (ha.put k3 _) (hw.add (⟨hgr.os,hgr.tape,hgr.output,hgr.size,λk hk=>hgr.block k hk (by simp [Value.ownBlock])⟩) q1 q2))
 have h6:=Nat.mul_le_mul_right sz q3
 rw [List.length_drop,Array.length_toList,q5]
 omega
theorem permS {M:Blocks} (p:L.Perm M) (h:wpS P w0 n ops Q F M l):wpS P w0 n ops Q F L l:=λa w ha hw=>h a w ha (hw.perm p)
end
end Sy
end
section
namespace Ec
variable {n:Nat} [NeZero n]
variable {inv:Fin n→Fin n}
end Ec
end
section
namespace Ec
variable {n:Nat} [NeZero n] {inv:Fin n→Fin n}
end Ec
end
section
section
open Go.RowKit Go.Lib
namespace M64
end M64
end
end
section
section
open Go.RowKit Go.Lib
end
end
section
section
open Go.RowKit Go.Lib
end
end
section
section
open Go.RowKit Go.Lib
end
end
section
section
open Go.RowKit Go.Lib
end
end
section
namespace Nt
end Nt
end
section
section
open Go.RowKit Go.Lib
end
end
section
section
open Go.RowKit Go.Lib
end
end
section
section
open Go.RowKit Go.Lib
end
end
section
section
open Go.RowKit Go.Lib
end
end
section
section
open Go.RowKit Go.Lib
end
end
section
namespace Cu
open Go.RowKit Sy
end Cu
end
section
namespace Nm
open Go.RowKit Go.Lib
end Nm
end
section
namespace Cu
open Go.RowKit Sy
end Cu
end
section
namespace Cu
open Go.RowKit
end Cu
end
section
namespace Cu
open Go.RowKit Sy
set_option maxRecDepth 100000
set_option maxHeartbeats 4000000
end Cu
end
section
namespace Cu
open Go.RowKit Sy
set_option maxRecDepth 100000
set_option maxHeartbeats 4000000
end Cu
end
section
section
open Go.RowKit Go.Lib
end
end
section
section
open Go.RowKit Go.Lib
end
end
section
namespace Fz
open Go.RowKit Go.Lib Sy
end Fz
end
section
namespace Fz
open Go.RowKit Go.Lib Sy
end Fz
end
section
section
open Go.RowKit Go.Lib
end
end
section
section
open Go.RowKit Go.Lib
section
variable {P:Program} {ops:Array Oper}
end
end
end
section
namespace Fz
open Go.RowKit Go.Lib Sy
end Fz
end
section
section
open Go.RowKit Go.Lib
end
end
section
namespace Fz
open Go.RowKit Go.Lib Sy
end Fz
end
section
section
open Go.RowKit Go.Lib
end
end
section
section
open Go.RowKit Go.Lib
end
end
section
section
open Go.RowKit Sp
end
end
section
section
open Go.RowKit Go.Lib
end
end
section
namespace Cu
open Go.RowKit Sy
set_option maxRecDepth 100000
set_option maxHeartbeats 4000000
end Cu
end
section
namespace Cu
open Go.RowKit Sy
end Cu
end
section
section
open Go.RowKit Go.Lib
end
end
section
section
open Go.RowKit Go.Lib
end
end
section
section
open Go.RowKit Go.Lib
end
end
section
section
open Go.RowKit Go.Lib
end
end
section
namespace Cu
open Go.RowKit Sy
set_option maxRecDepth 100000
set_option maxHeartbeats 4000000
end Cu
end
section
namespace Cu
open Go.RowKit Sy
end Cu
end
section
namespace Cu
open Go.RowKit Sy
set_option maxRecDepth 100000
set_option maxHeartbeats 4000000
end Cu
end
section
namespace Cu
open Go.RowKit Sy
set_option maxRecDepth 100000
set_option maxHeartbeats 4000000
end Cu
end
section
namespace Cu
open Go.RowKit Sy
end Cu
end
section
namespace Sy
open Go.RowKit
section
variable {P:Program} {w0:Base} {n:Nat} {F:Slots} {L:Blocks} {o:Oper}
end
end Sy
end
section
namespace Sy
open Go.RowKit
structure Slc where
 v:Value
 bl:Blocks
structure Slc.Is (r:Slc) (e:TypeId) (sz:Nat) (xs:List (List Value)):Prop where
 len:∀ x∈xs,x.length=sz
 one:∀ x∈xs, ∀ u∈x,u.oneCell'=true
 row:(xs=[]∧r=⟨.slice none 0 0,[]⟩)∨∃ g cap sp,r=⟨.slice (some ⟨g,0,none⟩) xs.length cap,[(g,e,(xs.flatten++sp).toArray)]⟩∧sp.length+xs.length*sz=cap*sz∧xs.length≤cap∧cap≤maxLen
theorem Slc.Is.nil (e:TypeId) (sz:Nat):Slc.Is ⟨.slice none 0 0,[]⟩ e sz []:=⟨λ_ h=>(by cases h),λ_ h=>(by cases h),.inl ⟨rfl,rfl⟩⟩
theorem flat_len' {sz:Nat}:∀ {xs:List (List Value)},(∀ x∈xs,x.length=sz)→xs.flatten.length=xs.length*sz
 | [],_=>by simp
 | x::xs,h=>by
  rw [List.flatten_cons,List.length_append,h x (List.mem_cons_self ..),flat_len' λy hy=>h y (List.mem_cons_of_mem _ hy),List.length_cons,Nat.add_mul,Nat.one_mul,Nat.add_comm]
section
variable {P:Program} {w0:Base} {n:Nat} {Q:Exit→Act→World→Prop} {F:Slots} {pre T:Blocks} {ops:Array Oper} {o:Oper} {l:List Oper}
theorem loopT {L:Blocks} {Y:Type} {c:Code} (N:Nat) (FF:Nat→Y→Slots) (LL:Nat→Y→Blocks) (H:Nat→Y→Prop) (x0:Y) (h0:H 0 x0) (hF:∀ p∈FF 0 x0,F.lookup p.1=some p.2) (hL:∀ w,St w0 w L→St w0 w (LL 0 x0))
  (hr:∀ k x,k≤N→H k x→wpC P w0 n (Exit.then (NextX w0 n N FF LL H k) Q) (FF k x) (LL k x) c):wpC P w0 n Q F L (.loop c) :=
 loopI N (λk a w=>∃ x,H k x∧Fr w0.ds a n (FF k x)∧St w0 w (LL k x)) (λ_ w ha hw=>⟨x0,h0,ha.all hF,hL w hw⟩)
  λk hk a w ⟨x,hx,ha,hw⟩=>hr k x hk hx a w ha hw
theorem againT {L:Blocks} {Y:Type} {N:Nat} {FF:Nat→Y→Slots} {LL:Nat→Y→Blocks} {H:Nat→Y→Prop} {k:Nat} {R:Exit→Act→World→Prop} (y:Y) (hk:k<N) (hy:H (k+1) y) (hF:∀ p∈FF (k+1) y,F.lookup p.1=some p.2) (hL:∀ w,St w0 w L→St w0 w (LL (k+1) y)) :
  X w0 n (Exit.then (NextX w0 n N FF LL H k) R) F L .normal:=λ_ w ha hw=>⟨hk,y,hy,ha.all hF,hL w hw⟩
end
section
variable {P:Program} {w0:Base} {F:Slots} {L:Blocks} {o:Oper}
end
end Sy
end
section
namespace Sy
open Go.RowKit
section
variable {P:Program} {w0:Base} {n:Nat} {Q:Exit→Act→World→Prop} {F:Slots} {L M:Blocks} {ops:Array Oper} {ex:Nat→Bool} {fuel:Nat} {listed:Array Bool} {pre T:Blocks}
end
def nilS:Slc:=⟨.slice none 0 0,[]⟩
section
variable {r:Nat→Slc} {n i:Nat} {x:Slc}
end
section
variable {w0:Base} {w:World} {pre a T M N:Blocks}
end
section
variable {P:Program} {w0:Base} {F:Slots} {L:Blocks} {o:Oper}
end
end Sy
end
section
namespace Sy
open Go.RowKit
section
variable {P:Program} {w0:Base} {n:Nat} {Q:Exit→Act→World→Prop} {F:Slots} {L pre T:Blocks} {ops:Array Oper} {o:Oper} {l:List Oper}
theorem appendM (hg:good ops n F o=true) (ts e:TypeId) (inf:TypeInfo) (z:Value) (sz by_:Nat) (ht:P.underlying ts=some (.slice e)) (hinf:P.info? e=some inf) (hz:inf.zero=some z) (hs1:inf.size=sz) (hb1:inf.bytes=by_) (hzs:z.cells.size=sz) (h0:0<sz)
  (s x:Operand) (ho:o.op=.call { callee:=.builtin .append,args:=#[s,x],argTypes:=#[ts,ts] })
  {r:Slc} {xs ys:List (List Value)} (hr:r.Is e sz xs) (hs:evF F s=r.v) (hy:∀ y∈ys,y.length=sz) (hy1:∀ y∈ys, ∀ u∈y,u.oneCell'=true)
  (A:Option Addr) (m c:Nat) (hm:ys.length=m) (hmc:m≤c) (hx:evF F x=.slice A m c) (hf:∀ r:Slc,From w0 (pre++(r.bl++T)) A ys.flatten) (hsmall:(xs.length+m)*by_≤140737488355328) (h63:xs.length+m≤maxLen)
  (h:∀ r':Slc,r'.Is e sz (xs++ys)→wpS P w0 n ops Q (putF F o.dst r'.v) (pre++(r'.bl++T)) l):wpS P w0 n ops Q F (pre++(r.bl++T)) (o::l):=by
 have hlen:∀ u∈xs++ys,u.length=sz:=λu hu=>(List.mem_append.1 hu).elim (hr.len u) (hy u)
 have hone:∀ u∈xs++ys, ∀ v∈u,v.oneCell'=true:=λu hu=>(List.mem_append.1 hu).elim (hr.one u) (hy1 u)
 have hyl:ys.flatten.length=m*sz:=by rw [flat_len' hy,hm]
 have hyo:∀ u∈ys.flatten,u.oneCell'=true:=λu hu=>by
  obtain ⟨y,h1,h2⟩:=List.mem_flatten.1 hu
  exact hy1 y h1 u h2
 rcases hr.row with ⟨rfl,rfl⟩ | ⟨g,cap,sp,rfl,q1,q2,q3⟩
 ·rcases Nat.eq_zero_or_pos m with rfl | hm0
  ·obtain rfl:ys=[]:=List.eq_nil_of_length_eq_zero hm
   intro a w ha hw
   obtain ⟨k1,_,k3,_⟩:=good_spec hg
   refine wpList_step λK hK=>?_
   rw [if_pos (ha.wanted k1)]
   have hfc:(Builtin.firstCells inf.size 0 (.slice A 0 c)).run P w=.ok #[] w:=by
    cases A with
    | none=>simp [Builtin.firstCells,Sem.run_pure]
    | some a=>simpa using run_firstCells_some (P:=P) w inf.size 0 a 0 c [] (by simp) (λj u hj=>by cases hj)
   have hrn:(Builtin.append_ #[ts,ts] o.type #[.slice none 0 0,.slice A 0 c]).run P w=.ok (.slice none 0 0) w:=by
    simp [Builtin.append_,run_underlying ht,sizeOf,typeInfo,hinf,Builtin.lenOf,hfc]
   unfold Oper.wp
   rw [good_exec hg ha]
   unfold execOp
   simp only [ho,resolve,invoke,builtin,Sem.run_bind,Sem.run_pure,Result.andThen_ok,List.map_toArray,List.map_cons,List.map_nil,hs,hx,hrn]
   exact hK _ _ (h nilS (Slc.Is.nil e sz) _ _ (ha.put k3 _) hw)
  ·refine appendGNil hg ts e inf z sz by_ ht hinf hz hs1 hb1 hzs h0 s x ho hs A m c ys.flatten hx (hf _) hyl hm0 hyo (by simpa using hsmall) (by simpa using h63) (λg' cap' sp' h1 h2 h3=>?_)
   have hq:=h ⟨.slice (some ⟨g',0,none⟩) m cap',[(g',e,(ys.flatten++sp').toArray)]⟩ ⟨hlen,hone,.inr ⟨g',cap',sp',by simp [hm],by simpa [hm] using h1,by simpa [hm] using h2,h3⟩⟩
   exact permS (by
    rw [List.nil_append,List.append_assoc]
    exact (List.perm_append_comm (l₁:=T) (l₂:=[(g',e,(ys.flatten++sp').toArray)])).append_left pre) hq
 ·have hi:(pre++([(g,e,(xs.flatten++sp).toArray)]++T))[pre.length]? = some (g,e,(xs.flatten++sp).toArray):=by
   rw [List.getElem?_append_right (Nat.le_refl _),Nat.sub_self]
   rfl
  refine appendG hg ts e inf z sz by_ ht hinf hz hs1 hb1 hzs h0 s x ho pre.length g xs.length cap xs.flatten sp hs hi (flat_len' hr.len) q1 q3 A m c ys.flatten hx (hf ⟨.slice none 0 0,[(g,e,(xs.flatten++sp).toArray)]⟩) hyl hmc hyo hsmall h63 (λg' cap' sp' h1 h2 h3=>?_)
  have hq:=h ⟨.slice (some ⟨g',0,none⟩) (xs.length+m) cap',[(g',e,(xs.flatten++ys.flatten++sp').toArray)]⟩ ⟨hlen,hone,.inr ⟨g',cap',sp',by simp [hm],by simpa [hm] using h1,by simpa [hm] using h2,h3⟩⟩
  have he:(pre++([(g,e,(xs.flatten++sp).toArray)]++T)).set pre.length (g',e,(xs.flatten++ys.flatten++sp').toArray)=pre++([(g',e,(xs.flatten++ys.flatten++sp').toArray)]++T):=by
   rw [List.set_append_right _ _ (Nat.le_refl _),Nat.sub_self]
   rfl
  rw [he]
  exact hq
end
end Sy
end
section
namespace Wr
open Go.RowKit Sy
set_option maxRecDepth 100000
set_option maxHeartbeats 4000000
abbrev Rdr:=Nat→Nat→Value→Prop
def Le (C D:Rdr):Prop:=∀ g o v,C g o v→D g o v
def rdW (w:World):Rdr:=λg o v=>g<w.heap.size∧w.cell? ⟨g,o,none⟩=some v
def rdB (M:Blocks):Rdr:=λg o v=>∃ t cs,(g,t,cs)∈M∧cs[o]? = some v
def rdC (w0:Base) (R:Blocks):Rdr:=λg o v=>rdW w0.world g o v∨rdB R g o v
theorem rdC_world {w0:Base} {w:World} {L R:Blocks} (hw:St w0 w L) (hR:∀ b∈R,b∈L):Le (rdC w0 R) (rdW w):=by
 rintro g o v (⟨hg,hc⟩ | ⟨t,cs,hm,hc⟩)
 ·exact ⟨Nat.lt_of_lt_of_le hg hw.below.size,(Below.cell (p:=⟨g,o,none⟩) hw.below hg).trans hc⟩
 ·have hb:=(hw.blk g t cs (hR _ hm)).2
  exact ⟨hb.lt,(hb.cell o).trans hc⟩
theorem rdW_base {w:World} {R:Blocks}:Le (rdW w) (rdC (Base.of w) R):=λ_ _ _ h=>.inl h
def BytR (C:Rdr) (v:Value) (b:Byt):Prop:=∃ A n cp,v=.slice A n cp∧b.length=n∧n≤cp∧cp≤maxLen∧(b≠[]→∃ g o,A=some ⟨g,o,none⟩∧∀ j u,b[j]? = some u→C g (o+j) (bv u))
theorem BytR.le {C D:Rdr} (hl:Le C D) {v:Value} {b:Byt} (h:BytR C v b):BytR D v b:=by
 obtain ⟨A,n,cp,h1,h2,h3,h4,h5⟩:=h
 exact ⟨A,n,cp,h1,h2,h3,h4,λhb=>by obtain ⟨g,o,e,hq⟩:=h5 hb; exact ⟨g,o,e,λj u hu=>hl _ _ _ (hq j u hu)⟩⟩
def byL (b:Byt):List (List Value):=b.map λu=>[bv u]
theorem byL_flat (b:Byt):(byL b).flatten=b.map bv:=by induction b with | nil=>rfl | cons u b ih=>show bv u::(byL b).flatten=bv u::b.map bv; rw [ih]
theorem byL_len (b:Byt):(byL b).length=b.length:=List.length_map _
theorem byL_one (b:Byt):∀ y∈byL b,y.length=1:=λy hy=>by obtain ⟨u,_,rfl⟩:=List.mem_map.1 hy; rfl
theorem byL_oneC (b:Byt):∀ y∈byL b, ∀ u∈y,u.oneCell'=true:=λy hy u hu=>by
 obtain ⟨w,_,rfl⟩:=List.mem_map.1 hy
 rw [List.mem_singleton.1 hu]; rfl
theorem BytR.from {w0:Base} {L R:Blocks} {A:Option Addr} {n cp:Nat} {b:Byt} (h:BytR (rdC w0 R) (.slice A n cp) b) (hR:∀ x∈R,x∈L):From w0 L A (byL b).flatten:=λw hw=>by
 obtain ⟨A',n',cp',e,h2,h3,h4,h5⟩:=h
 injection e with e1 e2 e3
 subst e1
 rw [byL_flat]
 cases b with
 | nil=>exact .inl rfl
 | cons u b =>
  obtain ⟨g,o,rfl,hq⟩:=h5 (by simp)
  refine .inr ⟨_,rfl,λj v hj=>?_⟩
  rw [addr_off]
  rw [List.getElem?_map] at hj
  cases hx:(u::b)[j]? with
  | none=>rw [hx] at hj; cases hj
  | some x =>
   rw [hx] at hj
   cases hj
   exact (rdC_world hw hR _ _ _ (hq j x hx)).2
section
variable {P:Program} {w0:Base} {n:Nat} {Q:Exit→Act→World→Prop} {F:Slots} {L:Blocks} {ops:Array Oper} {o:Oper} {ex:Nat→Bool} {fuel:Nat} {listed:Array Bool}
theorem sa (i:Nat) {oi:Oper} (hi0:ops.toList[i]? = some oi) {v:Value} (hl:opV F oi.op=some v) (h:wpD P w0 n ops Q ex (putF F oi.dst v) L fuel (listed.setIfInBounds i true)) (hc:canTakeA .any ops listed i=true:=by kernel_rfl) (hg:good ops n F oi=true:=by kernel_rfl)
  (hQ:∀ c v a w,Q (.panic c) (a.put oi.dst v) w→Q (.panic c) a w:=by exact λ_ _ _ _ h=>h):wpD P w0 n ops Q ex F L (fuel+1) listed:=stepDA i hi0 hc hQ hg v (opV_run hl) h
end
end Wr
end
section
namespace Wr
open Go.RowKit Sy
set_option maxRecDepth 100000
set_option maxHeartbeats 4000000
end Wr
end
section
namespace Wr
open Go.RowKit Sy
set_option maxRecDepth 100000
set_option maxHeartbeats 4000000
end Wr
end
section
namespace Wr
open Go.RowKit Sy
set_option maxRecDepth 100000
set_option maxHeartbeats 4000000
end Wr
end
section
namespace Wr
open Go.RowKit Sy
set_option maxRecDepth 100000
set_option maxHeartbeats 4000000
section
variable {P:Program} {w0:Base} {n:Nat} {Q:Exit→Act→World→Prop} {F:Slots} {L:Blocks}
end
end Wr
end
section
namespace Wr
open Go.RowKit Sy
set_option maxRecDepth 100000
set_option maxHeartbeats 4000000
end Wr
end
section
namespace Wr
open Go.RowKit Sy
set_option maxRecDepth 100000
set_option maxHeartbeats 4000000
end Wr
end
section
namespace Wr
open Go.RowKit Sy
set_option maxRecDepth 100000
set_option maxHeartbeats 4000000
def XAt (C:Rdr) (g f:Nat) (cs:List Value):Prop:=∀ i u,cs[i]? = some u→C g (f+i) u
section
variable {P:Program} {w0:Base} {F:Slots} {L R:Blocks} {o:Oper}
end
end Wr
end
section
namespace Pg
open Go.RowKit Sy
set_option maxRecDepth 100000
set_option maxHeartbeats 4000000
open Wr
def LstR {α:Type} (C:Rdr) (k:Nat) (rep:Rdr→List Value→α→Prop) (v:Value) (l:List α):Prop:=∃ A n cp,v=.slice A n cp∧l.length=n∧n≤cp∧cp≤maxLen∧(l≠[]→∃ g o,A=some ⟨g,o,none⟩∧∀ j x,l[j]? = some x→∃ cs:List Value,cs.length=k∧(∀ u∈cs,u.oneCell'=true)∧rep C cs x∧XAt C g (o+j*k) cs)
end Pg
end
section
namespace Pg
open Go.RowKit Sy
set_option maxRecDepth 100000
set_option maxHeartbeats 4000000
open Wr
end Pg
end
section
namespace Sy
open Go.RowKit
section
variable {P:Program} {w0:Base} {n:Nat} {Q:Exit→Act→World→Prop} {F:Slots} {L:Blocks}
end
section
variable {pre A B C D M N:Blocks}
end
end Sy
end
section
namespace Sy
open Go.RowKit
section
variable {r:Nat→Slc} {n i:Nat} {pre A B C D M N T:Blocks} {b b':Nat×TypeId×Array Value} {v:Value} {w0:Base} {w:World}
end
end Sy
end
section
namespace Sy
open Go.RowKit
section
variable {L M:Blocks} {w0:Base} {w:World}
end
section
variable {f:Nat→List Value} {s m k o:Nat} {sp:List Value}
end
section
variable {r:Nat→Slc} {n i:Nat} {pre M R D E:Blocks} {b:Nat×TypeId×Array Value} {v:Value} {w0:Base} {w:World}
end
end Sy
end
section
namespace Pg
open Go.RowKit Sy
set_option maxRecDepth 100000
set_option maxHeartbeats 4000000
open Wr
end Pg
end
section
namespace Pg
open Go.RowKit Sy
set_option maxRecDepth 100000
set_option maxHeartbeats 4000000
open Wr
end Pg
end
section
namespace Pg
open Go.RowKit Sy
set_option maxRecDepth 100000
set_option maxHeartbeats 4000000
open Wr
section
variable {v r:Value} {m:Byt} {h k:Nat} (hm:m.length=32)
include hm
end
end Pg
end
section
namespace Pg
open Go.RowKit Sy
set_option maxRecDepth 100000
set_option maxHeartbeats 4000000
open Wr
open Go.ChangeShapes Go.WideShapes Go.ChangeAt Go.Deep
def repL {α:Type} (k:Nat) (rep:Rdr→List Value→α→Prop) (C:Rdr) (cs:List Value) (l:List α):Prop:=∃ v,cs=[v]∧LstR C k rep v l
theorem bulk_pos {H:Type} (d:DataW H):1≤Rows.uptoBulk d:=by
 cases d with
 | lit l=>cases l <;> simp [Rows.uptoBulk]
 | _=>simp [Rows.uptoBulk]
theorem bulk_app {H:Type}:∀ a b:List (DataW H),Rows.uptoBulkAll (a++b)=Rows.uptoBulkAll a+Rows.uptoBulkAll b
 | [],b=>by simp [Rows.uptoBulkAll]
 | d::a,b=>by
  have h:=bulk_app a b
  simp only [List.cons_append,Rows.uptoBulkAll]
  omega
theorem cells_at {W:World} {base:Nat} {a:Addr} {n:Nat} {cs:List Value} (h:W.cells? base a n=some cs):∀ (j:Nat) (v:Value),cs[j]? = some v→W.cell? (a.add j)=some v:=λj v hj=>by
 unfold World.cells? at h
 split at h
 ·have hl:=Lib.mapM_length h
  have hjl:j<n:=by
   have:=(List.getElem?_eq_some_iff.1 hj).1
   simp at hl
   omega
  obtain ⟨b,hb,hf⟩:=Lib.mapM_at h j j (by simp [hjl])
  rw [hb] at hj
  injection hj with hj
  rw [hf,hj]
 ·cases h
theorem cells_ln {W:World} {base:Nat} {a:Addr} {n:Nat} {cs:List Value} (h:W.cells? base a n=some cs):cs.length=n:=by
 unfold World.cells? at h
 split at h
 ·have hl:=Lib.mapM_length h
  simpa using hl
 ·cases h
theorem cell_in {w:World} {a:Addr} {v:Value} (h:w.cell? a=some v):∃ b o,a=⟨b,o,none⟩∧b<w.heap.size:=by
 obtain ⟨b,o,k⟩:=a
 unfold World.cell? at h
 cases k with
 | none =>
  refine ⟨b,o,rfl,?_⟩
  rcases Nat.lt_or_ge b w.heap.size with hl | hl
  ·exact hl
  ·simp [Array.getElem?_eq_none hl] at h
 | some k=>exfalso; cases hw:w.heap[b]? with
  | none=>simp [hw] at h
  | some ob=>cases ob <;> simp [hw] at h
theorem add_in (b o n:Nat):(⟨b,o,none⟩:Addr).add n=⟨b,o+n,none⟩:=by unfold Addr.add; split <;> simp_all
theorem list_of {α H:Type} {n:Nat} {p:Nat→α→Prop} {sz:α→Nat} {D:Nat→DataW H} (h:∀ i,i<n→∃ x,p i x∧sz x<Rows.uptoBulk (D i)):∃ l:List α,l.length=n∧(∀ i x,l[i]? = some x→p i x)∧l.length+(l.map sz).sum≤Rows.uptoBulkAll ((List.range n).map D):=by
 induction n with
 | zero=>exact ⟨[],rfl,λi x h=>(by cases h),Nat.zero_le _⟩
 | succ n ih =>
  obtain ⟨l,h1,h2,h3⟩:=ih λi hi=>h i (by omega)
  obtain ⟨x,hx,hs⟩:=h n (by omega)
  refine ⟨l++[x],by rw [List.length_append,h1]; rfl,λi y hy=>?_,?_⟩
  ·rcases Nat.lt_or_ge i l.length with hi | hi
   ·rw [List.getElem?_append_left hi] at hy
    exact h2 i y hy
   ·rw [List.getElem?_append_right hi] at hy
    cases hk:i - l.length with
    | zero =>
     rw [hk] at hy
     cases hy
     obtain rfl:i=n:=by omega
     exact hx
    | succ k=>rw [hk] at hy; cases hy
  ·simp only [List.range_succ,List.map_append,bulk_app,List.sum_append,List.length_append,List.map_cons,List.map_nil,List.sum_cons,List.sum_nil,List.length_cons,List.length_nil,Rows.uptoBulkAll]
   omega
structure Opng {α:Type} (t:TypeId) (k:Nat) (rep:Rdr→List Value→α→Prop) (sz:α→Nat):Prop where
 go:∀ {H:Type} {enc:TypeId×Value→H} {W:World} {fuel:Nat} {cs:List Value} {x:DataW H×List MemPlace},cs.length=k→DataW.trod enc Try.prog W 0 (λ_=>true) true fuel t cs=some x→∃ y,rep (rdW W) cs y∧(∀ u∈cs,u.oneCell'=true)∧sz y<Rows.uptoBulk x.1
theorem Opng.as {α β:Type} {t:TypeId} {k:Nat} {rep:Rdr→List Value→α→Prop} {sz:α→Nat} {rep':Rdr→List Value→β→Prop} {sz':β→Nat} (h:Opng t k rep sz) (hr:∀ C cs x,rep C cs x→∃ y,rep' C cs y∧sz' y≤sz x):Opng t k rep' sz':=⟨λhl hf=>by
 obtain ⟨x,h1,h2,h3⟩:=h.go hl hf
 obtain ⟨y,h4,h5⟩:=hr _ _ _ h1
 exact ⟨y,h4,h2,by omega⟩⟩
def repO (_:Rdr) (cs:List Value) (u:UInt8):Prop:=cs=[bv u]
def repT (C:Rdr) (cs:List Value) (b:Byt):Prop:=∃ v,cs=[v]∧BytR C v b
theorem opn_o {t:TypeId} (ht:Try.prog.underlying t=some (.int .u8)):Opng t 1 repO (λ_=>0):=⟨λhl hf=>by
 obtain ⟨z,rfl,hx,w⟩:=DataW.trod_int ht hf
 have hz:0≤z∧z<256:=by
  simp [Lit.wf,IntKind.bits,IntKind.signed,IntKind.min,IntKind.max] at w
  omega
 refine ⟨UInt8.ofNat z.toNat,?_,λu hu=>by rw [List.mem_singleton.1 hu]; rfl,bulk_pos _⟩
 unfold repO bv
 rw [UInt8.toNat_ofNat',show ((z.toNat%2 ^ 8:Nat):Int)=z by omega]⟩
theorem opn_l {α:Type} {t e:TypeId} {k:Nat} {rep:Rdr→List Value→α→Prop} {sz:α→Nat} (ht:Try.prog.underlying t=some (.slice e)) (hce:Try.prog.cellsOf e=k) (hk:0<k) (h:Opng e k rep sz):Opng t 1 (repL k rep) (λl=>l.length+(l.map sz).sum):=⟨λ{H enc W fuel cs x} hl hf=>by
 rcases open_slice ht hf with ⟨rfl,hx⟩ | ⟨a,len,cap,m,n,D,Pl,rfl,_,hlc,hm,hme,hx,hall⟩
 ·exact ⟨[],⟨_,rfl,none,0,0,rfl,rfl,Nat.le_refl _,Nat.zero_le _,λh=>(h rfl).elim⟩,λu hu=>by rw [List.mem_singleton.1 hu]; rfl,bulk_pos _⟩
 ·simp only [if_true] at hme
  subst hme
  rw [hce] at hall
  obtain ⟨l,l1,l2,l3⟩:=list_of (α:=α) (n:=len) (sz:=sz) (D:=D) (p:=λi y=>∃ cs',W.cells? 0 (a.add (i*k)) k=some cs'∧rep (rdW W) cs' y∧∀ u∈cs',u.oneCell'=true) (λi hi=>by
   obtain ⟨cs',h1,h2⟩:=hall i (by omega)
   obtain ⟨y,q1,q2,q3⟩:=h.go (cells_ln h1) h2
   exact ⟨y,⟨cs',h1,q1,q2⟩,q3⟩)
  refine ⟨l,⟨_,rfl,some a,len,m,rfl,l1,hlc,hm,λhne=>?_⟩,λu hu=>by rw [List.mem_singleton.1 hu]; rfl,?_⟩
  ·have hpos:0<l.length:=List.length_pos_iff.2 hne
   obtain ⟨cs0,c1,c2,c3⟩:=l2 0 l[0] (List.getElem?_eq_getElem hpos)
   have c4:=cells_ln c1
   have hcell:=cells_at c1 0 cs0[0] (List.getElem?_eq_getElem (by omega))
   have e0:(a.add (0*k)).add 0=a:=by simp [Addr.add]
   rw [e0] at hcell
   obtain ⟨b,o,rfl,hlt⟩:=cell_in hcell
   refine ⟨b,o,rfl,λj y hy=>?_⟩
   obtain ⟨cs',d1,d2,d3⟩:=l2 j y hy
   refine ⟨cs',cells_ln d1,d3,d2,λi v hi=>⟨hlt,?_⟩⟩
   have:=cells_at d1 i v hi
   rwa [add_in,add_in] at this
  ·subst hx
   simp only [Rows.uptoBulk]
   omega⟩
theorem opn_t {t e:TypeId} (ht:Try.prog.underlying t=some (.slice e)) (he:Try.prog.underlying e=some (.int .u8)) (hce:Try.prog.cellsOf e=1):Opng t 1 repT (λb=>b.length):=(opn_l ht hce Nat.zero_lt_one (opn_o he)).as λC cs l ⟨v,h1,A,n,cp,h2,h3,h4,h5,h6⟩=>⟨l,⟨v,h1,A,n,cp,h2,h3,h4,h5,λhne=>by
 obtain ⟨g,o,e,hq⟩:=h6 hne
 refine ⟨g,o,e,λj u hu=>?_⟩
 obtain ⟨cs',_,_,rfl,q⟩:=hq j u hu
 have:=q 0 (bv u) rfl
 rwa [Nat.mul_one,Nat.add_zero] at this⟩,Nat.le_add_right _ _⟩
theorem arg_v {α:Type} {t e:TypeId} {rep:Rdr→List Value→α→Prop} {sz:α→Nat} (h:Opng t 1 rep sz) (ht:Try.prog.underlying t=some (.slice e)) {H:Type} {enc:TypeId×Value→H} {W:World} {r:Reach} {b0:Nat} {v:Value} {d:DataW H} {ps:List MemPlace} (hval:Value.okWide Try.prog W r b0 t v) (hT:DataW.Trod enc Try.prog W 0 (λ_=>true) true t v d ps) :
  ∃ y,rep (rdW W) [v] y∧sz y<Rows.uptoBulk d:=by
 obtain ⟨A,n,c,rfl⟩:=okWide_slice ht hval
 obtain ⟨fuel,hf⟩:=hT
 obtain ⟨y,h1,_,h3⟩:=h.go rfl (show DataW.trod enc Try.prog W 0 (λ_=>true) true fuel t [.slice A n c]=some (d,ps) by simpa [Value.cells] using hf)
 exact ⟨y,h1,h3⟩
theorem opn_by:Opng 22 1 repT (λb=>b.length):=opn_t Try.underlying22 Try.underlying5 (by kernel_rfl)
theorem repT.one {C:Rdr} {v:Value} {b:Byt} (h:repT C [v] b):BytR C v b:=by
 obtain ⟨u,e,h⟩:=h
 injection e with e
 subst e
 exact h
end Pg
end
section
namespace Pg
open Go.ChangeShapes Go.WideShapes Go.ChangeAt Go.RowKit Go.Deep
set_option maxRecDepth 100000
set_option maxHeartbeats 4000000
theorem slice_len {H:Type} {enc:TypeId×Value→H} {P:Program} {W:World} {t e:TypeId} {A:Option Addr} {n c:Nat} {d:DataW H} {ps:List MemPlace} (ht:P.underlying t=some (.slice e)) (h:DataW.Trod enc P W 0 (λ_=>true) true t (.slice A n c) d ps):n=0∨∃ el sp,d=.slice el sp∧el.length=n:=by
 obtain ⟨fuel,hf⟩:=h
 rcases open_slice ht hf with ⟨hcs,hx⟩ | ⟨a,len',cap',m,k,D,Pl,hcs,_,hl,hm,hme,hx,hall⟩
 ·simp [Value.cells] at hcs
  exact .inl hcs.2.1
 ·simp [Value.cells] at hcs
  obtain ⟨rfl,rfl,rfl⟩:=hcs
  simp only [Prod.mk.injEq] at hx
  obtain ⟨rfl,_⟩:=hx
  exact .inr ⟨_,_,rfl,by simp⟩
theorem arg_z {t:TypeId} (ht:Try.prog.underlying t=some (.int .i64)) {H:Type} {enc:TypeId×Value→H} {W:World} {r:Reach} {b0:Nat} {v:Value} {d:DataW H} {ps:List MemPlace} (hval:Value.okWide Try.prog W r b0 t v) (hT:DataW.Trod enc Try.prog W 0 (λ_=>true) true t v d ps):∃ z:Int,v=.int .i64 z ∧ -9223372036854775808≤z∧z<9223372036854775808:=by
 obtain ⟨z,rfl⟩:=okWide_int ht hval
 obtain ⟨fuel,hf⟩:=hT
 obtain ⟨z',e,_,hw⟩:=DataW.trod_int ht (show DataW.trod enc Try.prog W 0 (λ_=>true) true fuel t [.int .i64 z]=some (d,ps) by simpa [Value.cells] using hf)
 have e2:=List.head_eq_of_cons_eq e
 injection e2 with _ e2
 subst e2
 simp [Lit.wf,IntKind.bits,IntKind.signed,IntKind.min,IntKind.max] at hw
 exact ⟨z,rfl,by omega,by omega⟩
end Pg
end
section
namespace Pg
open Go.RowKit Sy
set_option maxRecDepth 100000
set_option maxHeartbeats 4000000
open Wr
def crcB (s:BitVec 32):BitVec 32:=if s.getLsbD 0 then (s >>> 1) ^^^ 0xedb88320#32 else s >>> 1
def crcN:Nat→BitVec 32→BitVec 32
 | 0,s=>s
 | n+1,s=>crcB (crcN n s)
def crcC (s:BitVec 32) (c:UInt8):BitVec 32:=crcN 8 (s ^^^ c.toBitVec.setWidth 32)
def crc (b:Byt):BitVec 32:=(~~~ (b.foldl crcC 0xffffffff#32))
theorem crcB_inj {x y:BitVec 32} (h:crcB x=crcB y):x=y:=by
 have top:∀ z:BitVec 32,(crcB z).getLsbD 31=z.getLsbD 0:=λz=>by
  unfold crcB
  cases hz:z.getLsbD 0
  ·rw [if_neg (by decide)]; simp
  ·rw [if_pos rfl]; simp
 have h0:x.getLsbD 0=y.getLsbD 0:=by rw [← top, ← top,h]
 have h1:x >>> 1=y >>> 1:=by
  unfold crcB at h
  rw [h0] at h
  cases hy:y.getLsbD 0
  ·rw [hy,if_neg (by decide),if_neg (by decide)] at h; exact h
  ·rw [hy,if_pos rfl,if_pos rfl] at h
   have:=congrArg (· ^^^ 0xedb88320#32) h
   simpa [BitVec.xor_assoc] using this
 apply BitVec.eq_of_getLsbD_eq
 intro i hi
 cases i with
 | zero=>exact h0
 | succ i =>
  have:=congrArg (λz=>z.getLsbD i) h1
  simpa [BitVec.getLsbD_ushiftRight,Nat.add_comm] using this
theorem crcN_inj:∀ (n:Nat) {x y:BitVec 32},crcN n x=crcN n y→x=y
 | 0,_,_,h=>h
 | n+1,_,_,h=>crcN_inj n (crcB_inj h)
theorem crcC_left {x y:BitVec 32} {c:UInt8} (h:crcC x c=crcC y c):x=y:=by
 have:=congrArg (· ^^^ c.toBitVec.setWidth 32) (crcN_inj 8 h)
 simpa [BitVec.xor_assoc] using this
theorem crcC_right {x:BitVec 32} {c d:UInt8} (h:crcC x c=crcC x d):c=d:=by
 have h1:c.toBitVec.setWidth 32=d.toBitVec.setWidth 32:=by
  have:=congrArg (x ^^^ ·) (crcN_inj 8 h)
  simpa [← BitVec.xor_assoc] using this
 have h2:=congrArg BitVec.toNat h1
 rw [BitVec.toNat_setWidth,BitVec.toNat_setWidth] at h2
 have a:=c.toNat_lt; have b:=d.toNat_lt
 have e1:c.toBitVec.toNat=c.toNat:=rfl
 have e2:d.toBitVec.toNat=d.toNat:=rfl
 rw [e1,e2,Nat.mod_eq_of_lt (by omega),Nat.mod_eq_of_lt (by omega)] at h2
 exact UInt8.toNat_inj.1 h2
theorem fold_left (b:Byt):∀ {x y:BitVec 32},b.foldl crcC x=b.foldl crcC y→x=y:=by
 induction b with
 | nil=>intro x y h; exact h
 | cons c b ih=>intro x y h; exact crcC_left (ih h)
theorem crc_flip (b:Byt) (i:Nat) (u v:UInt8) (hu:b[i]? = some u) (hv:v≠u):crc (b.set i v)≠crc b:=by
 intro h
 have hi:i<b.length:=(List.getElem?_eq_some_iff.1 hu).1
 have e1:b=b.take i++u::b.drop (i+1):=by
  have e:=(List.getElem?_eq_some_iff.1 hu).2
  rw [← e, ← List.drop_eq_getElem_cons hi,List.take_append_drop]
 have e2:b.set i v=b.take i++v::b.drop (i+1):=List.set_eq_take_append_cons_drop .. |>.trans (if_pos hi)
 have h1:=congrArg (λz=>~~~z) h
 unfold crc at h1
 simp only [BitVec.not_not] at h1
 rw [e2] at h1
 have h2:(b.take i++v::b.drop (i+1)).foldl crcC 0xffffffff#32=(b.take i++u::b.drop (i+1)).foldl crcC 0xffffffff#32:=by rw [← e1]; exact h1
 rw [List.foldl_append,List.foldl_append,List.foldl_cons,List.foldl_cons] at h2
 exact hv (crcC_right (fold_left _ h2))
theorem crc_123:crc [49,50,51,52,53,54,55,56,57]=0xcbf43926#32:=by decide +kernel
abbrev uv (x:BitVec 32):Value:=.int .u32 ((x.toNat:Nat):Int)
theorem wrap32 (x:BitVec 32):IntKind.u32.wrap ((x.toNat:Nat):Int)=((x.toNat:Nat):Int):=by
 have:=x.isLt
 unfold IntKind.wrap; simp [IntKind.bits,IntKind.signed]; omega
theorem of32 (x:BitVec 32):BitVec.ofInt IntKind.u32.bits ((x.toNat:Nat):Int)=x:=by
 show BitVec.ofInt 32 _=x
 rw [BitVec.ofInt_natCast]; exact BitVec.ofNat_toNat .. |>.trans (by simp)
theorem xor32 {P:Program} (t:TypeId) (x y z:BitVec 32) (h:x ^^^ y=z) (w:World):(binOp .xor t (uv x) (uv y)).run P w=.ok (uv z) w:=int_xor t .u32 _ _ _ (by rw [of32,of32]; exact (congrArg (λz:BitVec 32=>IntKind.u32.wrap ((z.toNat:Nat):Int)) h).trans (wrap32 z)) w
theorem and32 {P:Program} (t:TypeId) (x y z:BitVec 32) (h:x &&& y=z) (w:World):(binOp .and t (uv x) (uv y)).run P w=.ok (uv z) w:=int_and t .u32 _ _ _ (by rw [of32,of32]; exact (congrArg (λz:BitVec 32=>IntKind.u32.wrap ((z.toNat:Nat):Int)) h).trans (wrap32 z)) w
theorem shr32 {P:Program} (t:TypeId) (x:BitVec 32) (w:World):(binOp .shr t (uv x) (.int .u64 1)).run P w=.ok (uv (x >>> 1)) w:=int_shr t .u32 .u64 _ 1 _ (by decide) (by
 rw [BitVec.toNat_ushiftRight,Nat.shiftRight_eq_div_pow]
 show ((x.toNat:Nat):Int).fdiv 2=_
 rw [Int.fdiv_eq_ediv_of_nonneg _ (by decide)]
 omega) w
theorem half32 {P:Program} (t:TypeId) (x:BitVec 32) (w:World):(binOp .quo t (uv x) (.int .u32 2)).run P w=.ok (uv (x >>> 1)) w:=int_quo t .u32 _ 2 _ (by decide) (by
 have hx:=x.isLt
 rw [BitVec.toNat_ushiftRight,Nat.shiftRight_eq_div_pow,Int.tdiv_eq_ediv_of_nonneg (by omega)]
 unfold IntKind.wrap; simp [IntKind.bits,IntKind.signed]; omega) w
theorem bit0 (x:BitVec 32):x.getLsbD 0=decide (x.toNat%2=1):=by
 rw [BitVec.getLsbD,Nat.testBit_zero]
theorem crcB_one {x:BitVec 32} (h:x.toNat%2=1):crcB x=(x >>> 1) ^^^ 0xedb88320#32:=by unfold crcB; rw [bit0,if_pos (decide_eq_true h)]
theorem crcB_nil {x:BitVec 32} (h:¬ x.toNat%2=1):crcB x=x >>> 1:=by unfold crcB; rw [bit0,if_neg (by rw [decide_eq_false h]; decide)]
theorem and1 (x:BitVec 32):x &&& 1#32=if x.toNat%2=1 then 1#32 else 0#32:=by
 apply BitVec.eq_of_toNat_eq
 rw [BitVec.toNat_and]
 show x.toNat &&& 1=_
 rw [Nat.and_one_is_mod]
 split
 ·rename_i h; rw [h]; rfl
 ·rename_i h
  have:x.toNat%2=0:=by omega
  rw [this]; rfl
theorem crcB_mask (x:BitVec 32):crcB x=(x >>> 1) ^^^ (0xedb88320#32 &&& (if x.toNat%2=1 then 0xffffffff#32 else 0#32)):=by
 by_cases h:x.toNat%2=1
 ·rw [crcB_one h,if_pos h]; rfl
 ·rw [crcB_nil h,if_neg h]
  have e:(0xedb88320#32 &&& 0#32)=0#32:=by decide
  rw [e,BitVec.xor_zero]
theorem conv_832 (w:World) (F:Slots) (o:Oper) (x:Operand) (u:UInt8) (ho:o.op=.convert 5 23 x) (hx:evF F x=bv u):(execOp (evF F) o).run Try.prog w=.ok (.value (uv (u.toBitVec.setWidth 32))) w:=by
 have hu:=u.toNat_lt
 have e2:((u.toBitVec.setWidth 32).toNat)=u.toNat:=by
  rw [BitVec.toNat_setWidth]
  exact Nat.mod_eq_of_lt (show u.toNat<2 ^ 32 by omega)
 have e:(convert 5 23 (.int .u8 ((u.toNat:Nat):Int))).run Try.prog w=.ok (uv (u.toBitVec.setWidth 32)) w:=by
  rw [uv,e2]
  go_simp
  unfold IntKind.wrap; simp [IntKind.bits,IntKind.signed]; omega
 unfold execOp
 simp only [ho,hx,bv,e,Sem.run_bind,Sem.run_pure,Result.andThen_ok]
theorem fold_take {b:Byt} {i:Nat} {u:UInt8} (h:b[i]? = some u) (s:BitVec 32):(b.take (i+1)).foldl crcC s=crcC ((b.take i).foldl crcC s) u:=by
 rw [List.take_add_one,h,List.foldl_append]; rfl
theorem not32 (w:World) (F:Slots) (o:Oper) (x:Operand) (s:BitVec 32) (ho:o.op=.unOp .xor 23 x) (hx:evF F x=uv s):(execOp (evF F) o).run Try.prog w=.ok (.value (uv (~~~ s))) w:=by
 have e:(Op.unary .xor (uv s)).run Try.prog w=.ok (uv (~~~ s)) w:=by
  have q:=xor32 (P:=Try.prog) 0 0xffffffff#32 s (~~~ s) (by rw [BitVec.xor_comm]; exact BitVec.xor_allOnes) w
  exact q
 unfold execOp
 simp only [ho,hx,e,Sem.run_bind,Sem.run_pure,Result.andThen_ok]
theorem neg32 (w:World) (F:Slots) (o:Oper) (x:Operand) (m k:BitVec 32) (hk:k = - m) (ho:o.op=.unOp .neg 23 x) (hx:evF F x=uv m):(execOp (evF F) o).run Try.prog w=.ok (.value (uv k)) w:=by
 have e:(Op.unary .neg (uv m)).run Try.prog w=.ok (uv k) w:=by
  have h:=m.isLt
  show Result.ok (Value.int .u32 (IntKind.u32.wrap _)) w=_
  have e2:IntKind.u32.wrap (0 - ((m.toNat:Nat):Int))=(((-m).toNat:Nat):Int):=by
   rw [BitVec.toNat_neg]
   unfold IntKind.wrap; simp [IntKind.bits,IntKind.signed]; omega
  rw [hk,e2]
 unfold execOp
 simp only [ho,hx,e,Sem.run_bind,Sem.run_pure,Result.andThen_ok]
theorem sum_any (w:World) (v:Value) (b:Byt) (hv:BytR (rdW w) v b):Calls Try.prog 6 #[v] w (Gets w (uv (crc b))):=by
 obtain ⟨A,n,cp,rfl,h2,h3,h4,h5⟩:=hv
 refine Sy.enter (args:=[.slice A n cp]) Try.func6 rfl kL ?_
 have hmx:cp<9223372036854775808:=by simp only [maxLen] at h4; omega
 refine sC ?_
 refine sP (.int .u32 0) ?_
 refine sA ?_
 refine sP (uv 0xffffffff#32) ?_
 refine sG<|Sy.seq<|sC ?_
 refine sp rfl<|sP (.int .i64 (n:Int))<|sP (.int .i64 0) ?_
 refine sG<|Sy.block ?_
 refine Sy.loopT (Y:=BitVec 32) n (λi s=>[(6,.slice A n cp),(7,.int .i64 (n:Int)),(8,.int .i64 (i:Int)),(3,uv s)]) (λ_ _=>[]) (λi s=>s=(b.take i).foldl crcC 0xffffffff#32) 0xffffffff#32 rfl (all_cons kR (all_cons kR (all_cons kR (all_cons kR all_nil)))) (λ_ h=>h) (λi s hi hy=>?_)
 refine sC ?_
 obtain ⟨b2,hb2⟩:∃ t_:Bool,t_=decide (i<n):=⟨_,rfl⟩
 refine sS (.bool b2) (Quiet.pure (exec_int .lss _ _ _ .i64 _ _ _ rfl rfl rfl (int_lss _ _ _ _ _ (by rw [hb2]; exact decide_eq_decide.2 (by omega))))) ?_
 refine sG<|Sy.seq ?_
 cases b2
 case' false =>
  have l2:¬ i<n:=of_decide_eq_false hb2.symm
  rw [List.take_of_length_le (by omega)] at hy
  refine sU<|Sy.exit<|Sy.then_exit<|Sy.then_exit<|Sy.in_exit<|Sy.then_<|sC ?_
  refine sp rfl<|sS (uv (~~~ s)) (Quiet.pure (λw=>not32 w _ _ _ s rfl rfl))<|sp rfl ?_
  refine sG<|Sy.ret ?_
  have e:crc b=(~~~ s):=by rw [hy]; rfl
  rw [e]
  exact rV (uv (~~~ s)) rfl
 have l2:i<n:=of_decide_eq_true hb2.symm
 obtain ⟨u,hu⟩:∃ u,b[i]? = some u:=⟨_,List.getElem?_eq_getElem (by omega)⟩
 obtain ⟨g,o,rfl,hq⟩:=h5 (by intro e; rw [e] at hu; cases hu)
 refine sT<|Sy.skip<|Sy.then_<|Sy.seq<|Sy.block<|sC ?_
 refine sS (.pointer (some ⟨g,o+i*1,none⟩)) (Quiet.pure (exec_at 22 5 _ _ g o n cp i 1 .i64 rfl rfl rfl Try.underlying22 kF l2))<|sS (bv u) (Quiet.thereOne g (o+i*1) 5 _ _ rfl kR (hq i u hu).1 _ (by rw [Nat.mul_one]; exact (hq i u hu).2) Try.underlying5 rfl)<|sp rfl ?_
 refine sA ?_
 refine sp rfl<|sp rfl<|sS (uv (u.toBitVec.setWidth 32)) (Quiet.pure (λw=>conv_832 w _ _ _ u rfl rfl))<|sS (uv (s ^^^ u.toBitVec.setWidth 32)) (Quiet.pure (exec_int .xor _ _ _ .u32 _ _ _ rfl rfl rfl (xor32 _ s (u.toBitVec.setWidth 32) _ rfl)))<|sp rfl ?_
 refine sA ?_
 refine sP (.int .i64 0) ?_
 refine sG<|Sy.block ?_
 obtain ⟨s0,hs0⟩:∃ s0,s0=s ^^^ u.toBitVec.setWidth 32:=⟨_,rfl⟩
 rw [← hs0]
 refine Sy.loopT (Y:=BitVec 32) 8 (λj r=>[(6,.slice (some ⟨g,o,none⟩) n cp),(7,.int .i64 (n:Int)),(8,.int .i64 (i:Int)),(3,uv r),(16,.int .i64 (j:Int))]) (λ_ _=>[]) (λj r=>r=crcN j s0) s0 rfl (all_cons kR (all_cons kR (all_cons kR (all_cons kR (all_cons kR all_nil))))) (λ_ h=>h) (λj r hj hr=>?_)
 refine sC ?_
 obtain ⟨b3,hb3⟩:∃ t_:Bool,t_=decide (j<8):=⟨_,rfl⟩
 refine sS (.bool b3) (Quiet.pure (exec_int .lss _ _ _ .i64 _ _ _ rfl rfl rfl (int_lss _ _ _ _ _ (by rw [hb3]; exact decide_eq_decide.2 (by omega))))) ?_
 refine sG<|Sy.seq ?_
 cases b3
 case' false =>
  have l3:¬ j<8:=of_decide_eq_false hb3.symm
  obtain rfl:j=8:=by omega
  refine sU<|Sy.exit<|Sy.then_exit<|Sy.then_exit<|Sy.in_exit<|Sy.in_<|Sy.then_<|Sy.region ?_
  refine sS (.int .i64 ((i+1:Nat):Int)) (Quiet.pure (exec_int .add _ _ _ .i64 _ _ _ rfl rfl rfl (int_add _ _ _ _ _ ((wrap_i64 (by omega) (by omega)).trans (by omega)))))<|sp rfl ?_
  refine Sy.nil ?_
  exact Sy.againT r l2 (by rw [hr,hs0,hy,fold_take hu]; rfl) (all_cons kR (all_cons kR (all_cons kR (all_cons kR all_nil)))) (λw h=>h)
 have l3:j<8:=of_decide_eq_true hb3.symm
 refine sT<|Sy.skip<|Sy.then_<|Sy.seq<|Sy.block<|Sy.region ?_
 obtain ⟨m,hm⟩:∃ m:BitVec 32,m=if r.toNat%2=1 then 1#32 else 0#32:=⟨_,rfl⟩
 obtain ⟨k,hk⟩:∃ k:BitVec 32,k=if r.toNat%2=1 then 0xffffffff#32 else 0#32:=⟨_,rfl⟩
 have hneg:k = - m:=by rw [hm,hk]; split <;> rfl
 refine sp rfl<|sS (uv (r >>> 1)) (Quiet.pure (exec_int .shr _ _ _ .u32 (k':=.u64) _ 1 _ rfl rfl rfl (shr32 _ r)))<|sp rfl<|sS (uv m) (Quiet.pure (exec_int .and _ _ _ .u32 _ _ _ rfl rfl rfl (and32 _ r 1#32 m (by rw [hm]; exact and1 r))))<|sS (uv k) (Quiet.pure (λw=>neg32 w _ _ _ m k hneg rfl rfl))<|sS (uv (0xedb88320#32 &&& k)) (Quiet.pure (exec_int .and _ _ _ .u32 _ _ _ rfl rfl rfl (and32 _ 0xedb88320#32 k _ rfl)))<|sS (uv (crcB r)) (Quiet.pure (exec_int .xor _ _ _ .u32 _ _ _ rfl rfl rfl (xor32 _ (r >>> 1) _ (crcB r) (by rw [hk]; exact (crcB_mask r).symm))))<|sp rfl ?_
 refine Sy.nil<|Sy.in_<|Sy.then_<|Sy.region ?_
 refine sS (.int .i64 ((j+1:Nat):Int)) (Quiet.pure (exec_int .add _ _ _ .i64 _ _ _ rfl rfl rfl (int_add _ _ _ _ _ ((wrap_i64 (by omega) (by omega)).trans (by omega)))))<|sp rfl ?_
 refine Sy.nil ?_
 exact Sy.againT (crcB r) l3 (by rw [hr]; rfl) (all_cons kR (all_cons kR (all_cons kR (all_cons kR (all_cons kR all_nil))))) (λw h=>h)
theorem sum15_any (w:World) (v:Value) (b:Byt) (hv:BytR (rdW w) v b):Calls Try.prog 7 #[v] w (Gets w (uv (crc b))):=by
 obtain ⟨A,n,cp,rfl,h2,h3,h4,h5⟩:=hv
 refine Sy.enter (args:=[.slice A n cp]) Try.func7 rfl kL ?_
 have hmx:cp<9223372036854775808:=by simp only [maxLen] at h4; omega
 refine sC ?_
 refine sP (.int .u32 0) ?_
 refine sA ?_
 refine sP (uv 0xffffffff#32) ?_
 refine sG<|Sy.seq<|sC ?_
 refine sP (.int .i64 0) ?_
 refine sG<|Sy.block ?_
 refine Sy.loopT (Y:=BitVec 32) n (λi s=>[(0,.slice A n cp),(4,.int .i64 (i:Int)),(3,uv s)]) (λ_ _=>[]) (λi s=>s=(b.take i).foldl crcC 0xffffffff#32) 0xffffffff#32 rfl (all_cons kR (all_cons kR (all_cons kR all_nil))) (λ_ h=>h) (λi s hi hy=>?_)
 refine Sy.seq<|sC ?_
 obtain ⟨b2,hb2⟩:∃ t_:Bool,t_=decide (i<n):=⟨_,rfl⟩
 refine sp rfl<|sp rfl<|sP (.int .i64 (n:Int))<|sS (.bool b2) (Quiet.pure (exec_int .lss _ _ _ .i64 _ _ _ rfl rfl rfl (int_lss _ _ _ _ _ (by rw [hb2]; exact decide_eq_decide.2 (by omega))))) ?_
 refine sG ?_
 cases b2
 case' false =>
  have l2:¬ i<n:=of_decide_eq_false hb2.symm
  rw [List.take_of_length_le (by omega)] at hy
  refine sU<|Sy.exit<|Sy.then_exit<|Sy.then_exit<|Sy.in_exit<|Sy.then_<|sC ?_
  refine sp rfl<|sS (uv (~~~ s)) (Quiet.pure (exec_int .xor _ _ _ .u32 _ _ _ rfl rfl rfl (xor32 _ s 0xffffffff#32 _ (BitVec.xor_allOnes))))<|sp rfl ?_
  refine sG<|Sy.ret ?_
  have e:crc b=(~~~ s):=by rw [hy]; rfl
  rw [e]
  exact rV (uv (~~~ s)) rfl
 have l2:i<n:=of_decide_eq_true hb2.symm
 obtain ⟨u,hu⟩:∃ u,b[i]? = some u:=⟨_,List.getElem?_eq_getElem (by omega)⟩
 obtain ⟨g,o,rfl,hq⟩:=h5 (by intro e; rw [e] at hu; cases hu)
 refine sT<|Sy.skip<|Sy.then_<|Sy.seq<|Sy.block<|sC ?_
 refine sp rfl<|sp rfl<|sp rfl<|sS (.pointer (some ⟨g,o+i*1,none⟩)) (Quiet.pure (exec_at 22 5 _ _ g o n cp i 1 .i64 rfl rfl rfl Try.underlying22 kF l2))<|sS (bv u) (Quiet.thereOne g (o+i*1) 5 _ _ rfl kR (hq i u hu).1 _ (by rw [Nat.mul_one]; exact (hq i u hu).2) Try.underlying5 rfl)<|sS (uv (u.toBitVec.setWidth 32)) (Quiet.pure (λw=>conv_832 w _ _ _ u rfl rfl))<|sS (uv (s ^^^ u.toBitVec.setWidth 32)) (Quiet.pure (exec_int .xor _ _ _ .u32 _ _ _ rfl rfl rfl (xor32 _ s (u.toBitVec.setWidth 32) _ rfl)))<|sp rfl ?_
 refine sA ?_
 refine sP (.int .i64 0) ?_
 refine sG<|Sy.block ?_
 obtain ⟨s0,hs0⟩:∃ s0,s0=s ^^^ u.toBitVec.setWidth 32:=⟨_,rfl⟩
 rw [← hs0]
 refine Sy.loopT (Y:=BitVec 32) 8 (λj r=>[(0,.slice (some ⟨g,o,none⟩) n cp),(4,.int .i64 (i:Int)),(3,uv r),(5,.int .i64 (j:Int))]) (λ_ _=>[]) (λj r=>r=crcN j s0) s0 rfl (all_cons kR (all_cons kR (all_cons kR (all_cons kR all_nil)))) (λ_ h=>h) (λj r hj hr=>?_)
 refine Sy.seq<|sC ?_
 obtain ⟨b3,hb3⟩:∃ t_:Bool,t_=decide (j<8):=⟨_,rfl⟩
 refine sp rfl<|sS (.bool b3) (Quiet.pure (exec_int .lss _ _ _ .i64 _ _ _ rfl rfl rfl (int_lss _ _ _ _ _ (by rw [hb3]; exact decide_eq_decide.2 (by omega))))) ?_
 refine sG ?_
 cases b3
 case' false =>
  have l3:¬ j<8:=of_decide_eq_false hb3.symm
  obtain rfl:j=8:=by omega
  refine sU<|Sy.exit<|Sy.then_exit<|Sy.then_exit<|Sy.in_exit<|Sy.in_<|Sy.then_<|Sy.region ?_
  refine sp rfl<|sS (.int .i64 ((i+1:Nat):Int)) (Quiet.pure (exec_int .add _ _ _ .i64 _ _ _ rfl rfl rfl (int_add _ _ _ _ _ ((wrap_i64 (by omega) (by omega)).trans (by omega)))))<|sp rfl ?_
  refine Sy.nil ?_
  exact Sy.againT r l2 (by rw [hr,hs0,hy,fold_take hu]; rfl) (all_cons kR (all_cons kR (all_cons kR all_nil))) (λw h=>h)
 have l3:j<8:=of_decide_eq_true hb3.symm
 refine sT<|Sy.skip<|Sy.then_<|Sy.seq<|Sy.block<|sC ?_
 obtain ⟨b4,hb4⟩:∃ t_:Bool,t_=decide (r.toNat%2=1):=⟨_,rfl⟩
 refine sp rfl<|sS (.int .u32 ((r.toNat%2:Nat):Int)) (Quiet.pure (exec_int .rem _ _ _ .u32 _ _ _ rfl rfl rfl (int_rem _ _ _ _ _ (by decide) (by rw [Int.tmod_eq_emod_of_nonneg (by omega)]; omega))))<|sS (.bool b4) (Quiet.pure (exec_int .eql _ _ _ .u32 _ _ _ rfl rfl rfl (int_eql _ _ _ _ _ (by rw [hb4]; exact decide_eq_decide.2 (by omega))))) ?_
 refine sG ?_
 cases b4
 case' false =>
  have l4:¬ r.toNat%2=1:=of_decide_eq_false hb4.symm
  refine sU<|Sy.region ?_
  refine sp rfl<|sS (uv (r >>> 1)) (Quiet.pure (exec_int .quo _ _ _ .u32 _ 2 _ rfl rfl rfl (half32 _ r)))<|sp rfl ?_
  refine Sy.nil<|Sy.in_<|Sy.then_<|Sy.region ?_
  refine sp rfl<|sS (.int .i64 ((j+1:Nat):Int)) (Quiet.pure (exec_int .add _ _ _ .i64 _ _ _ rfl rfl rfl (int_add _ _ _ _ _ ((wrap_i64 (by omega) (by omega)).trans (by omega)))))<|sp rfl ?_
  refine Sy.nil ?_
  exact Sy.againT (r >>> 1) l3 (by rw [hr]; rw [hr] at l4; exact (crcB_nil l4).symm) (all_cons kR (all_cons kR (all_cons kR (all_cons kR all_nil)))) (λw h=>h)
 have l4:r.toNat%2=1:=of_decide_eq_true hb4.symm
 refine sT<|Sy.region ?_
 refine sp rfl<|sS (uv (r >>> 1)) (Quiet.pure (exec_int .quo _ _ _ .u32 _ 2 _ rfl rfl rfl (half32 _ r)))<|sS (uv ((r >>> 1) ^^^ 0xedb88320#32)) (Quiet.pure (exec_int .xor _ _ _ .u32 _ _ _ rfl rfl rfl (xor32 _ (r >>> 1) 0xedb88320#32 _ rfl)))<|sp rfl ?_
 refine Sy.nil<|Sy.in_<|Sy.then_<|Sy.region ?_
 refine sp rfl<|sS (.int .i64 ((j+1:Nat):Int)) (Quiet.pure (exec_int .add _ _ _ .i64 _ _ _ rfl rfl rfl (int_add _ _ _ _ _ ((wrap_i64 (by omega) (by omega)).trans (by omega)))))<|sp rfl ?_
 refine Sy.nil ?_
 exact Sy.againT ((r >>> 1) ^^^ 0xedb88320#32) l3 (by rw [hr]; rw [hr] at l4; exact (crcB_one l4).symm) (all_cons kR (all_cons kR (all_cons kR (all_cons kR all_nil)))) (λw h=>h)
end Pg
end
section
namespace Sy
open Go.RowKit Wr
structure Lit (w0:Base) (g:Nat) (C:Array Value) (e:TypeId):Prop where
 here:w0.fz.heap[g]? = some (.cells C e (C.size,C.size+1))
 own:w0.world.heap.size≤g
theorem Lit.now {w0:Base} {g:Nat} {C:Array Value} {e:TypeId} {w:World} {L:Blocks} (h:Lit w0 g C e) (hw:St w0 w L):w.heap[g]? = some (.cells C e (C.size,C.size+1)):=hw.non g _ h.own h.here (by simp [stays])
theorem St.reNow {w0:Base} {w:World} {L:Blocks} (hw:St w0 w L):St (w0.re w) w L:=⟨hw.below,hw.blk,hw.apart,Nat.le_refl _,λ_ _ _ h _=>h⟩
theorem Lit.byt {w0:Base} {g:Nat} {b:Byt} {e:TypeId} {w:World} {L:Blocks} (h:Lit w0 g (b.map bv).toArray e) (hw:St w0 w L) (hb:b.length≤1000000) (n:Nat) (hn:b.length=n):BytR (rdW w) (.slice (some ⟨g,0,none⟩) n n) b:=by
 subst hn
 have hk:=h.now hw
 refine ⟨_,_,_,rfl,rfl,Nat.le_refl _,by simp only [maxLen]; omega,λ_=>⟨g,0,rfl,λj u hu=>⟨(Array.getElem?_eq_some_iff.1 hk).1,?_⟩⟩⟩
 unfold World.cell?
 simp only [hk]
 rw [Nat.zero_add,List.getElem?_toArray,List.getElem?_map,hu]
 rfl
section
variable {P:Program} {w0:Base} {n:Nat} {Q:Exit→Act→World→Prop} {F:Slots} {L:Blocks} {ops:Array Oper} {o1 o2:Oper} {l:List Oper}
theorem constS (d1:Tmp) (k:Nat) (ts e:TypeId) (C:Array Value) (hd:o1.dst=some d1) (hm:∀ w,(execOp (evF F) o1).run P w=.ok (.value (.slice (some ⟨w.heap.size,0,none⟩) k k)) (w.alloc (.cells C e)))
  (ho2:o2.op=.convert ts ts (.tmp d1)) (ht:P.underlying ts=some (.slice e)) (he:P.underlying e=some (.int .u8))
  (h:∀ g fz,Lit (w0.re fz) g C e→wpS P (w0.re fz) n ops Q (putF (putF F o1.dst (.slice (some ⟨g,0,none⟩) k k)) o2.dst (.slice (some ⟨g,0,none⟩) k k)) L l)
  (hg1:good ops n F o1=true:=by kernel_rfl) (hg2:∀ v,good ops n (putF F o1.dst v) o2=true:=by intro _; kernel_rfl):wpS P w0 n ops Q F L (o1::o2::l):=λa w ha hw=>by
 obtain ⟨k1,_,k3,_⟩:=good_spec hg1
 refine wpList_step λK hK=>?_
 rw [if_pos (ha.wanted k1)]
 unfold Oper.wp
 rw [good_exec hg1 ha,hm w]
 refine hK _ _ ?_
 have ha2:=ha.put k3 (.slice (some ⟨w.heap.size,0,none⟩) k k)
 obtain ⟨q1,_,q3,_⟩:=good_spec (hg2 (.slice (some ⟨w.heap.size,0,none⟩) k k))
 refine wpList_step λK hK=>?_
 rw [if_pos (ha2.wanted q1)]
 unfold Oper.wp
 rw [good_exec (hg2 _) ha2]
 have hv:evF (putF F o1.dst (.slice (some ⟨w.heap.size,0,none⟩) k k)) (.tmp d1)=.slice (some ⟨w.heap.size,0,none⟩) k k:=by rw [hd]; simp [evF,putF]
 have hr:(execOp (evF (putF F o1.dst (.slice (some ⟨w.heap.size,0,none⟩) k k))) o2).run P (w.alloc (.cells C e))=.ok (.value (.slice (some ⟨w.heap.size,0,none⟩) k k)) (w.alloc (.cells C e (C.size,C.size+1))):=by
  unfold execOp
  simp only [ho2,hv,Sem.run_bind,Lib.run_convert_bytes_const w ts e C k k ht he,Result.andThen_ok,Sem.run_pure]
 rw [hr]
 have hst:=hw.gr (gr_alloc w (.cells C e (C.size,C.size+1)))
 exact hK _ _ (h w.heap.size (w.alloc (.cells C e (C.size,C.size+1))) ⟨World.alloc_heap_new w _,hw.below.size⟩ _ _ (ha2.put q3 _) hst.reNow)
theorem St.ofFz {w1 fz w:World} (h:St ((Base.of w1).re fz) w L):St (Base.of w1) w L:=⟨h.below,h.blk,h.apart,h.below.size,λk o hk ho _=>absurd (Array.getElem?_eq_some_iff.1 ho).1 (by show ¬ k<w1.heap.size; have:w1.heap.size≤k:=hk; omega)⟩
theorem outF {w1 fz:World} {e:Exit} (h:X (Base.of w1) n Q F L e):X ((Base.of w1).re fz) n Q F L e:=λa w ha hw=>h a w ha hw.ofFz
end
end Sy
end
section
namespace Pg
open Go.RowKit Sy
set_option maxRecDepth 100000
set_option maxHeartbeats 4000000
open Wr
theorem int_shlU {P:Program} (t:TypeId) (k k':IntKind) (a b c:Int) (hb:¬ b<0) (h:k.wrap (a*2 ^ min b.toNat k.bits)=c) (w:World):(binOp .shl t (.int k a) (.int k' b)).run P w=.ok (.int k c) w:=by
 simp only [binOp,Op.shift,if_neg hb,Sem.run_pure,h]
def bit8 (j:Nat):UInt8:=UInt8.ofNat (2 ^ j)
theorem bit8_nat {j:Nat} (hj:j<8):(bit8 j).toNat=2 ^ j∧bit8 j≠0:=by
 have:j=0∨j=1∨j=2∨j=3∨j=4∨j=5∨j=6∨j=7:=by omega
 rcases this with rfl | rfl | rfl | rfl | rfl | rfl | rfl | rfl <;> decide
theorem wrap8 (z:Nat) (h:z<256):IntKind.u8.wrap (z:Int)=(z:Int):=wrap_u8 (by omega) (by omega)
theorem shl_bit (t:TypeId) (j:Nat) (hj:j<8) {P:Program} (w:World):(binOp .shl t (.int .u8 1) (.int .i64 (j:Int))).run P w=.ok (bv (bit8 j)) w:=int_shlU t .u8 .i64 1 j _ (by omega) (by
 rw [(bit8_nat hj).1]
 have:j=0∨j=1∨j=2∨j=3∨j=4∨j=5∨j=6∨j=7:=by omega
 rcases this with rfl | rfl | rfl | rfl | rfl | rfl | rfl | rfl <;> rfl) w
theorem xor8 (t:TypeId) (u m:UInt8) {P:Program} (w:World):(binOp .xor t (bv u) (bv m)).run P w=.ok (bv (u ^^^ m)) w:=int_xor t .u8 _ _ _ (by
 have e:∀ z:UInt8,BitVec.ofInt IntKind.u8.bits ((z.toNat:Nat):Int)=z.toBitVec:=λz=>by
  show BitVec.ofInt 8 _=_
  rw [BitVec.ofInt_natCast]
  exact BitVec.eq_of_toNat_eq (by rw [BitVec.toNat_ofNat]; exact Nat.mod_eq_of_lt z.toNat_lt)
 rw [e,e]
 exact wrap8 (u ^^^ m).toNat (u ^^^ m).toNat_lt) w
theorem xor_ne {u m:UInt8} (h:m≠0):u ^^^ m≠u:=λe=>h (by
 have:=congrArg (u ^^^ ·) e
 simpa [← UInt8.xor_assoc] using this)
theorem list_set_mid {α:Type} (l sp:List α) (k:Nat) (v:α) (h:k<l.length):(l++sp).set k v=l.set k v++sp:=by rw [List.set_append,if_pos h]
noncomputable def infU8:TypeInfo:=(Try.prog.info? 5).getD default
theorem info_U8:Try.prog.info? 5=some infU8:=by kernel_rfl
theorem law_logstoresums (w:World) (v:Value) (b:Byt) (hv:BytR (rdW w) v b) (hlen:b.length≤140737488351232) (at_:Int) (hat:at_<9223372036854775808):Calls Try.prog 3 #[v,.int .i64 at_] w (Gets w (.bool true)):=by
 obtain ⟨A,n,cp,rfl,h2,h3,h4,h5⟩:=hv
 have hv:BytR (rdC (Base.of w) []) (.slice A n cp) b:=(show BytR (rdW w) (.slice A n cp) b from ⟨A,n,cp,rfl,h2,h3,h4,h5⟩).le rdW_base
 have hmx:cp<9223372036854775808:=by simp only [maxLen] at h4; omega
 refine Sy.enter (args:=[.slice A n cp,.int .i64 at_]) Try.func3 rfl kL ?_
 refine sC ?_
 refine sP (.bool false) ?_
 refine sA ?_
 obtain ⟨s,hs⟩:∃ s,s=crc b:=⟨_,rfl⟩
 refine sp rfl<|sS (uv s) (qg (λw' hw=>by rw [hs]; exact sum_any w' _ b (hv.le (rdC_world hw (λ_ h=>h)))))<|sp rfl ?_
 refine sG<|Sy.seq<|sC ?_
 refine sp rfl<|sp rfl<|sS (uv s) (qg (λw' hw=>by rw [hs]; exact sum15_any w' _ b (hv.le (rdC_world hw (λ_ h=>h)))))<|sS (.bool false) (Quiet.pure (exec_int .neq _ _ _ .u32 _ _ _ rfl rfl rfl (int_neq _ _ _ _ _ (decide_eq_false (λh=>h rfl)))))<|sp rfl ?_
 refine constS 14 9 22 5 (([49,50,51,52,53,54,55,56,57]:Byt).map bv).toArray rfl kF rfl Try.underlying22 Try.underlying5 (λgl fz hlit=>?_)
 refine sS (uv 0xcbf43926#32) (qg (λw' hw=>by have q:=sum_any w' _ _ (hlit.byt hw (by decide) 9 rfl); rw [crc_123] at q; exact q))<|sP (.bool false)<|sP (.bool false) ?_
 refine sG<|sU<|Sy.skip<|Sy.then_<|Sy.seq<|sC ?_
 obtain ⟨b1,hb1⟩:∃ t_:Bool,t_=decide (at_<0):=⟨_,rfl⟩
 refine sp rfl<|sS (.bool b1) (Quiet.pure (exec_int .lss _ _ _ .i64 _ _ _ rfl rfl rfl (int_lss _ _ _ _ _ hb1.symm)))<|sp rfl ?_
 have fin:∀ {F:Slots},F.lookup 4=some (.bool true)→X ((Base.of w).re fz) Try.f3.ntmps (bodyPost Try.prog Try.f3 (Gets w (.bool true))) F [] .ret:=λhF=>Sy.outF (Sy.ret1 rfl (.inl hF))
 cases b1
 case' true =>
  refine sN<|sN<|sN<|sN<|sN<|sP (.bool true) ?_
  refine sG<|sT<|sC ?_
  refine sP (.bool true) ?_
  refine sG<|Sy.ret<|Sy.then_ret ?_
  exact fin rfl
 have l1:¬ at_<0:=of_decide_eq_false hb1.symm
 obtain ⟨k,rfl⟩:∃ k:Nat,at_=(k:Int):=⟨at_.toNat,by omega⟩
 have hk:k<9223372036854775808:=by omega
 obtain ⟨b2,hb2⟩:∃ t_:Bool,t_=decide (k / 8 ≥ n):=⟨_,rfl⟩
 have QU:∀ (w':World) (t:TypeId),(binOp .quo t (.int .i64 (k:Int)) (.int .i64 8)).run Try.prog w'=.ok (.int .i64 ((k / 8:Nat):Int)) w':=λw' t=>int_quo t .i64 _ 8 _ (by decide) (by rw [Int.tdiv_eq_ediv_of_nonneg (by omega)]; exact (wrap_i64 (by omega) (by omega)).trans (by omega)) w'
 refine sp rfl<|sS (.int .i64 ((k / 8:Nat):Int)) (Quiet.pure (exec_int .quo _ _ _ .i64 _ _ _ rfl rfl rfl (λw'=>QU w' _)))<|sp rfl<|sP (.int .i64 (n:Int))<|sS (.bool b2) (Quiet.pure (exec_int .geq _ _ _ .i64 _ _ _ rfl rfl rfl (int_geq _ _ _ _ _ (by rw [hb2]; exact decide_eq_decide.2 (by omega)))))<|sP (.bool b2) ?_
 refine sG ?_
 cases b2
 case' true =>
  refine sT<|sC ?_
  refine sP (.bool true) ?_
  refine sG<|Sy.ret<|Sy.then_ret ?_
  exact fin rfl
 have l2:k / 8<n:=Nat.lt_of_not_le (of_decide_eq_false hb2.symm)
 obtain ⟨u,hu⟩:∃ u,b[k / 8]? = some u:=⟨_,List.getElem?_eq_getElem (by omega)⟩
 refine sU<|Sy.skip<|Sy.then_<|sC ?_
 refine sp rfl ?_
 refine Sy.permS (M:=[]++(nilS.bl++[])) (List.Perm.refl _) ?_
 refine Sy.appendM (ys:=byL b) (by kernel_rfl) 22 5 _ _ 1 1 Try.underlying22 info_U8 rfl rfl rfl rfl (by decide) _ _ rfl (Slc.Is.nil _ _) rfl (byL_one b) (byL_oneC b) A n cp (by rw [byL_len,h2]) h3 rfl (λr=>BytR.from (w0:=(Base.of w).re fz) (R:=[]) hv (λ_ h=>(by cases h))) (by simp only [List.length_nil]; omega) (by simp only [List.length_nil,maxLen]; omega) (λy hy=>?_)
 rcases hy.row with ⟨e1,_⟩ | ⟨g,cap,tl,rfl,q1,q2,q3⟩
 ·have:(byL b).length=0:=by rw [List.nil_append] at e1; rw [e1]; rfl
  rw [byL_len] at this; omega
 rw [List.nil_append,byL_len,h2] at q2 ⊢
 rw [List.nil_append,byL_len,h2] at q1
 rw [List.nil_append,byL_flat]
 refine sp rfl ?_
 refine sG ?_
 have hbl:(b.map bv).length=n:=by rw [List.length_map,h2]
 have hk7:k%8<8:=Nat.mod_lt _ (by decide)
 have hcell:((b.map bv++tl).toArray)[k / 8]? = some (bv u):=by
  rw [List.getElem?_toArray,List.getElem?_append_left (by omega),List.getElem?_map,hu]; rfl
 refine Sy.seq ?_
 refine Sy.regionD (λj=>j == 13) kR ?_
 refine sa 0 rfl rfl<|sa 1 rfl rfl<|sD 2 rfl (.int .i64 ((k / 8:Nat):Int)) (Quiet.pure (exec_int .quo _ _ _ .i64 _ _ _ rfl rfl rfl (λw'=>QU w' _)))<|sa 3 rfl rfl<|sa 4 rfl rfl<|sD 5 rfl (.int .i64 ((k / 8:Nat):Int)) (Quiet.pure (exec_int .quo _ _ _ .i64 _ _ _ rfl rfl rfl (λw'=>QU w' _))) ?_
 refine sD 6 rfl (.pointer (some ⟨g,0+k / 8*1,none⟩)) (Quiet.pure (exec_at 22 5 _ _ g 0 n cap (k / 8) 1 .i64 rfl rfl rfl Try.underlying22 kF l2)) ?_
 refine sD 7 rfl (bv u) (Quiet.cell 0 g (0+k / 8*1) 5 5 (b.map bv++tl).toArray _ _ rfl rfl rfl Try.underlying5 rfl (bv u) (by rw [show 0+k / 8*1=k / 8 by omega]; exact hcell)) ?_
 refine sa 8 rfl rfl<|sD 9 rfl (.int .i64 ((k%8:Nat):Int)) (Quiet.pure (exec_int .rem _ _ _ .i64 _ _ _ rfl rfl rfl (int_rem _ _ _ _ _ (by decide) (by rw [Int.tmod_eq_emod_of_nonneg (by omega)]; omega))))<|sD 10 rfl (bv (bit8 (k%8))) (Quiet.pure (exec_int .shl _ _ _ .u8 _ _ _ rfl rfl rfl (λw'=>shl_bit _ (k%8) hk7 w')))<|sD 11 rfl (bv (u ^^^ bit8 (k%8))) (Quiet.pure (exec_int .xor _ _ _ .u8 _ _ _ rfl rfl rfl (λw'=>xor8 _ u _ w')))<|sD 12 rfl (.pointer (some ⟨g,0+k / 8*1,none⟩)) (Quiet.pure (exec_at 22 5 _ _ g 0 n cap (k / 8) 1 .i64 rfl rfl rfl Try.underlying22 kF l2)) ?_
 obtain ⟨b',hb'⟩:∃ b',b'=b.set (k / 8) (u ^^^ bit8 (k%8)):=⟨_,rfl⟩
 have hb'l:b'.length=n:=by rw [hb',List.length_set,h2]
 have hset:(b.map bv++tl).set (k / 8) (bv (u ^^^ bit8 (k%8)))=b'.map bv++tl:=by rw [list_set_mid _ _ _ _ (by omega),hb',List.map_set]
 refine sx 13 rfl 0 rfl (b'.map bv++tl).toArray (Writes.one (0+k / 8*1) 5 (bv (u ^^^ bit8 (k%8))) _ _ rfl kR kR kR rfl rfl (by rw [List.size_toArray,List.length_append]; omega) (by rw [show 0+k / 8*1=k / 8 by omega,List.setIfInBounds_toArray,hset])) ?_
 refine sE ?_
 refine Sy.then_ ?_
 have hne:crc b'≠s:=by rw [hs,hb']; exact crc_flip b (k / 8) u _ hu (xor_ne (bit8_nat hk7).2)
 obtain ⟨s',hs'⟩:∃ s',s'=crc b':=⟨_,rfl⟩
 rw [← hs'] at hne
 have hcp:cap≤maxLen:=q3
 refine sC ?_
 refine sp rfl<|sS (uv s') (qg (λw' hw=>by
  rw [hs']
  exact sum_any w' _ b' ⟨_,n,cap,rfl,hb'l,q2,hcp,λ_=>⟨g,0,rfl,λj x hx=>rdC_world (R:=[(g,5,(b'.map bv++tl).toArray)]) hw (λ_ h=>h) _ _ _ (.inr ⟨_,_,List.mem_singleton.2 rfl,by
   have hj:=(List.getElem?_eq_some_iff.1 hx).1
   rw [Nat.zero_add,List.getElem?_toArray,List.getElem?_append_left (by simpa using hj),List.getElem?_map,hx]; rfl⟩)⟩⟩))<|sp rfl<|sS (.bool true) (Quiet.pure (exec_int .neq _ _ _ .u32 _ _ _ rfl rfl rfl (int_neq _ _ _ _ _ (decide_eq_true (λh=>hne (BitVec.eq_of_toNat_eq (by omega)))))))<|sp rfl ?_
 refine sG<|Sy.ret ?_
 exact Sy.outF (Sy.ret1 rfl (.inl rfl))
end Pg
end
end Go.Proofs.Ytgggdbjakcpanaa
