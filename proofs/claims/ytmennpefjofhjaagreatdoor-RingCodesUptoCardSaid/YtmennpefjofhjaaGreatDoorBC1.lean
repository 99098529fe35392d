/-
  Texts of ours, put together: Lift2, FeSpec, FeLift, FeBase, FeAdd, FeOrd, OrdV, Ord4, Rnd, Sym, Ec, EcM, FeMul, FeRow, FeProd, FeOps, FeMul2.
-/
import Derived.Test.YtmennpefjofhjaaGreatDoorQLift
import Derived.Test.YtmennpefjofhjaaGreatDoorQOwnAny
import Derived.WalkKit
import Derived.Test.YtmennpefjofhjaaGreatDoorRows
import Derived.Laws.IdiomArrays
import Derived.Test.YtmennpefjofhjaaGreatDoorQMem
import Derived.ProofKit
import Derived.OpenShut
import Derived.Deep.DeepHandedRow
import Derived.Lib.LaidTab
import Derived.Test.YtmennpefjofhjaaGreatDoorChecked
import Derived.Shelf.Spec.BitsCarry
import Derived.Lib.Mul64
import Derived.Laws.Bits64b
import Derived.Laws.ResultCell
import Derived.Test.YtmennpefjofhjaaGreatDoorQOrd
import Derived.OrdersIn
import Derived.TacticsIn
import Derived.RangeFuncCalls
import Derived.ControlIn
import Derived.RangeFuncNested
import Derived.RangeFuncLeaves
import Derived.LoopNIn
import Derived.RegionTactic
import Derived.ChangeAlike
import Derived.BigRegion
import Derived.Stop.BytesEq
import Derived.Deep.Strs
import Derived.Laws.AppendOwn
import Derived.Deep.DeepAppendRoom
import Derived.ArgAppend
import Derived.KernelRfl
import Derived.Laws.IdiomCopy
import Derived.Laws.MakeOwn
import Derived.Deep.AppendLies
import Derived.OwnWalk
import Derived.RangeFuncSeq
import Derived.OwnWalkIn
import Derived.Deep.Slices
import Derived.SizedLaws
import Derived.Lib.SmallJoins
import Derived.Test.YtmennpefjofhjaaGreatDoorQTag
import Derived.ChangeMaps5
import Derived.Laws.BitsAllLaws
import Derived.Test.YtmennpefjofhjaaGreatDoorQMem3
import Derived.Lib.AppendZeros
import Derived.Laws.IdiomStrings
import Derived.Test.YtmennpefjofhjaaGreatDoorQRefTag
import Derived.Great.BuildSlice
import Derived.Laws.Tables
import Derived.Scope
import Derived.WideKeyEntry
import Derived.WideKeyArr
import Derived.WideLaws
import Derived.MapFrom
import Derived.Test.YtmennpefjofhjaaGreatDoorQShaSpec
set_option linter.unusedVariables false
set_option linter.unusedSimpArgs false
namespace Go.Proofs.YtmennpefjofhjaaGreatDoor
section
open Go.RowKit
section
variable {P:Program} {ops:Array Oper} {Q:Exit→Act→World→Prop} {md:Region.Mode} {ex:Nat→Bool}
theorem tkw (i:Nat) {oi:Oper} {v:Value} {fuel:Nat} {listed:Array Bool} {a:Act} {w:World} (hi0:ops.toList[i]? = some oi) (hy:YieldsG P ops oi v a w) (h:wpAnyG P md ops Q ex fuel (listed.setIfInBounds i true) (a.put oi.dst v) w) (hc:canTake md ops listed ex i=true:=by kernel_rfl) (hQ:∀ c a w,Q (.panic c) (a.put oi.dst v) w→Q (.panic c) a w:=by exact λ_ _ _ h=>h):wpAnyG P md ops Q ex (fuel+1) listed a w:=wpAnyG_take i hi0 hc hQ hy h
theorem tk (i:Nat) {oi:Oper} {v:Value} {fuel:Nat} {listed:Array Bool} {a:Act} {w:World} (hi0:ops.toList[i]? = some oi) (h:wpAnyG P md ops Q ex fuel (listed.setIfInBounds i true) (a.put oi.dst v) w) (hw:Region.wanted oi (yielded ops a.tmps)=true:=by rfl) (hg:∀ w1,Gr w w1→(execOp a.eval oi).run P w1=.ok (.value v) w1:=by intro w9 _; go_simp; try with_reducible rfl) (hc:canTake md ops listed ex i=true:=by kernel_rfl) (hQ:∀ c a w,Q (.panic c) (a.put oi.dst v) w→Q (.panic c) a w:=by exact λ_ _ _ h=>h):wpAnyG P md ops Q ex (fuel+1) listed a w:=wpAnyG_take i hi0 hc hQ (YieldsG.pure hw hg) h
end
theorem aA {α:Type _} (l:List α) (i:Nat) (a:α):l.toArray.setIfInBounds i a=(l.set i a).toArray:=List.setIfInBounds_toArray ..
theorem aZ {α:Type _} {x:α} {xs:List α} {a:α}:(x::xs).set 0 a=a::xs:=rfl
theorem aS {α:Type _} {x:α} {xs:List α} {n:Nat} {a:α}:(x::xs).set (n+1) a=x::xs.set n a:=rfl
abbrev Zl (n:Nat):List Value:=List.replicate n (.int .u8 0)
end
section
namespace Sh
open Go.ChangeShapes Go.WideShapes Go.ChangeAt Go.RowKit
theorem bulk_one {H:Type} (d:DataW H):1≤Rows.uptoBulk d:=by
 cases d with
 | lit l=>cases l <;> simp [Rows.uptoBulk]
 | nil=>simp [Rows.uptoBulk]
 | ptr d=>simp [Rows.uptoBulk]
 | slice elems spare=>simp [Rows.uptoBulk]
 | agg parts=>simp [Rows.uptoBulk]
 | iface t d=>simp [Rows.uptoBulk]
 | map entries=>simp [Rows.uptoBulk]
 | held h=>simp [Rows.uptoBulk]
theorem bulk_length {H:Type} (l:List (DataW H)):l.length≤Rows.uptoBulkAll l:=by
 induction l with
 | nil=>simp [Rows.uptoBulkAll]
 | cons x r ih=>have:=bulk_one x; simp only [Rows.uptoBulkAll,List.length_cons]; omega
theorem open_src {H:Type} {enc:TypeId×Value→H} {P:Program} {W:World} {r:Reach} {b0:Nat} {t e:TypeId} {v:Value} {d:DataW H} {ps:List MemPlace} (ht:P.underlying t=some (.slice e)) (he:P.underlying e=some (.int .u8)) (hc:P.cellsOf e=1)
  (hval:Value.okWide P W r b0 t v) (h:DataW.Trod enc P W 0 (λ_=>true) true t v d ps) :
  ∃ (A:Option Addr) (m:List UInt8) (c:Nat),v=.slice A m.length c∧m.length≤c∧c≤9223372036854775807∧Src W A m∧m.length≤Rows.uptoBulk d:=by
 obtain ⟨a0,len,cap,rfl⟩:=okWide_slice ht hval
 obtain ⟨fuel,hf⟩:=h
 rcases open_ints ht he hc hf with ⟨hcs,_⟩ | ⟨a,len',cap',zs,hcs,_,hl,hm,hz,hx,hcell,hwz⟩
 ·simp [Value.cells] at hcs
  obtain ⟨rfl,rfl,rfl⟩:=hcs
  exact ⟨none,[],0,rfl,Nat.le_refl _,by omega,λhne=>absurd rfl hne,Nat.zero_le _⟩
 ·simp [Value.cells] at hcs
  obtain ⟨rfl,rfl,rfl⟩:=hcs
  simp only [if_true] at hz
  have hml:((zs.take len).map λz=>UInt8.ofNat z.toNat).length=len:=by simp; omega
  refine ⟨some a,(zs.take len).map (λz=>UInt8.ofNat z.toNat),cap,by rw [hml],by rw [hml]; exact hl,by simpa [maxLen] using hm,?_,?_⟩
  ·intro hne
   have hpos:0<zs.length:=by
    rcases Nat.eq_zero_or_pos zs.length with h0 | h0
    ·exact absurd (by simp [List.eq_nil_of_length_eq_zero h0]) hne
    ·exact h0
   have h0:=hcell 0 hpos
   have ha:a.spot=none:=by
    have h0':W.cell? a=some (.int .u8 (zs.getD 0 0)):=by simpa [Addr.add] using h0
    unfold World.cell? at h0'
    split at h0'
    ·split at h0'
     ·cases h0'
     ·rename_i hs; simpa using hs
    ·cases h0'
   obtain ⟨b,o,sp⟩:=a
   obtain rfl:sp=none:=ha
   have hlt:b<W.heap.size:=by
    have:=block_lt_of_cell h0
    simpa [Addr.add] using this
   refine ⟨b,o,rfl,hlt,λj u hu=>?_⟩
   rw [List.getElem?_map] at hu
   obtain ⟨z,hz',rfl⟩:=Option.map_eq_some_iff.1 hu
   rw [List.getElem?_take] at hz'
   split at hz'
   ·have hj:j<zs.length:=(List.getElem?_eq_some_iff.1 hz').1
    have hcj:=hcell j hj
    rw [addr_add] at hcj
    rw [hcj]
    have hg:zs.getD j 0=z:=by rw [List.getD_eq_getElem?_getD,hz']; rfl
    rw [hg]
    have hw:=hwz z (by exact List.mem_of_getElem? hz')
    have hz2:0≤z∧z<256:=by
     simp [Lit.wf,IntKind.bits,IntKind.signed,IntKind.min,IntKind.max] at hw
     omega
    unfold bv
    congr 2
    rw [UInt8.toNat_ofNat']
    omega
   ·cases hz'
  ·rw [hml]
   simp only [Prod.mk.injEq] at hx
   obtain ⟨rfl,_⟩:=hx
   simp only [Rows.uptoBulk]
   have h1:=bulk_length (lits (H:=H) .u8 (zs.take len))
   have h2:(lits (H:=H) .u8 (zs.take len)).length=len:=by simp [lits]; omega
   omega
end Sh
end
section
section
open Go.RowKit
def qv (n:Nat):Value:=.int .u64 (n:Int)
def fv (n:Nat):Value:=.agg #[qv (n%18446744073709551616),qv (n / 18446744073709551616%18446744073709551616),qv (n / 340282366920938463463374607431768211456%18446744073709551616),qv (n / 6277101735386680763835789423207666416102355444464034512896%18446744073709551616)]
theorem fv_mk (a b c d:Nat) (ha:a<18446744073709551616) (hb:b<18446744073709551616) (hc:c<18446744073709551616) (hd:d<18446744073709551616):Value.agg #[.int .u64 (a:Int),.int .u64 (b:Int),.int .u64 (c:Int),.int .u64 (d:Int)]=fv (a+18446744073709551616*b+340282366920938463463374607431768211456*c+6277101735386680763835789423207666416102355444464034512896*d):=by
 unfold fv qv
 have e0:(a+18446744073709551616*b+340282366920938463463374607431768211456*c+6277101735386680763835789423207666416102355444464034512896*d)%18446744073709551616=a:=by omega
 have e1:(a+18446744073709551616*b+340282366920938463463374607431768211456*c+6277101735386680763835789423207666416102355444464034512896*d) / 18446744073709551616%18446744073709551616=b:=by omega
 have e2:(a+18446744073709551616*b+340282366920938463463374607431768211456*c+6277101735386680763835789423207666416102355444464034512896*d) / 340282366920938463463374607431768211456%18446744073709551616=c:=by omega
 have e3:(a+18446744073709551616*b+340282366920938463463374607431768211456*c+6277101735386680763835789423207666416102355444464034512896*d) / 6277101735386680763835789423207666416102355444464034512896%18446744073709551616=d:=by omega
 rw [e0,e1,e2,e3]
theorem words_of (n:Nat) (hn:n<(2^256)):∃ a b c d:Nat,a<18446744073709551616∧b<18446744073709551616∧c<18446744073709551616∧d<18446744073709551616∧n=a+18446744073709551616*b+340282366920938463463374607431768211456*c+6277101735386680763835789423207666416102355444464034512896*d∧fv n=.agg #[.int .u64 (a:Int),.int .u64 (b:Int),.int .u64 (c:Int),.int .u64 (d:Int)] :=
 ⟨n%18446744073709551616,n / 18446744073709551616%18446744073709551616,n / 340282366920938463463374607431768211456%18446744073709551616,n / 6277101735386680763835789423207666416102355444464034512896%18446744073709551616,by omega,by omega,by omega,by omega,by omega,rfl⟩
theorem fv_lt (a b c d:Nat) (ha:a<18446744073709551616) (hb:b<18446744073709551616) (hc:c<18446744073709551616) (hd:d<18446744073709551616):a+18446744073709551616*b+340282366920938463463374607431768211456*c+6277101735386680763835789423207666416102355444464034512896*d<(2^256):=by omega
def pM:Nat:=115792089237316195423570985008687907853269984665640564039457584007908834671663
theorem pM_eq:pM=115792089237316195423570985008687907853269984665640564039457584007908834671663:=rfl
theorem mod_lt (n:Nat):n%pM<(2^256):=by have:=Nat.mod_lt n (show 0<pM by decide); rw [pM_eq] at this ⊢; omega
theorem mod_lt_p (n:Nat):n%pM<pM:=Nat.mod_lt n (by decide)
def addP (x y:Nat):Nat:=(x+y)%pM
def subP (x y:Nat):Nat:=(x+(pM - y%pM))%pM
def mulP (x y:Nat):Nat:=x*y%pM
theorem mulP_lt (x y:Nat):mulP x y<(2^256):=mod_lt _
theorem red_once (x:Nat) (hx:x<(2^256)):x%pM=if x+4294968273<(2^256) then x else x+4294968273 - (2^256):=by
 rw [pM_eq]
 by_cases h:x+4294968273<(2^256)
 ·rw [if_pos h]; exact Nat.mod_eq_of_lt (by omega)
 ·rw [if_neg h,Nat.mod_eq_sub_mod (by omega),Nat.mod_eq_of_lt (by omega)]
  omega
theorem mod_of_mult {x z k:Nat} (h:z+115792089237316195423570985008687907853269984665640564039457584007908834671663*k=x):z%pM=x%pM:=by
 rw [← h,pM_eq,Nat.add_mul_mod_self_left]
theorem sub_words (x y:Nat):subP x y=if y%pM≤x%pM then x%pM - y%pM else x%pM+115792089237316195423570985008687907853269984665640564039457584007908834671663 - y%pM:=by
 unfold subP
 have hx:=mod_lt_p x
 have hy:=mod_lt_p y
 rw [← Nat.mod_add_mod]
 generalize x%pM=a at *
 generalize y%pM=b at *
 rw [pM_eq] at *
 by_cases h:b≤a
 ·rw [if_pos h,Nat.mod_eq_sub_mod (by omega),Nat.mod_eq_of_lt (by omega)]; omega
 ·rw [if_neg h,Nat.mod_eq_of_lt (by omega)]; omega
theorem row_mul (a b c d w:Nat):(a+18446744073709551616*b+340282366920938463463374607431768211456*c+6277101735386680763835789423207666416102355444464034512896*d)*w=a*w+18446744073709551616*(b*w)+340282366920938463463374607431768211456*(c*w)+6277101735386680763835789423207666416102355444464034512896*(d*w):=by
 simp only [Nat.add_mul,Nat.mul_assoc]
theorem col_mul (x a b c d:Nat):x*(a+18446744073709551616*b+340282366920938463463374607431768211456*c+6277101735386680763835789423207666416102355444464034512896*d)=x*a+18446744073709551616*(x*b)+340282366920938463463374607431768211456*(x*c)+6277101735386680763835789423207666416102355444464034512896*(x*d):=by
 rw [Nat.mul_comm,row_mul,Nat.mul_comm a,Nat.mul_comm b,Nat.mul_comm c,Nat.mul_comm d]
end
end
section
section
open Go.ChangeShapes Go.WideShapes Go.ChangeAt Go.RowKit
section
variable {H:Type} {enc:TypeId×Value→H} {P:Program}
theorem open_bytes {w:World} {base:Nat} {sp:Nat→Bool} {held:Bool} {fuel:Nat} {t e:TypeId} {n:Nat} {cs:List Value} {x:DataW H×List MemPlace}
  (ht:P.underlying t=some (.array n e)) (he:P.underlying e=some (.int .u8)) (hce:P.cellsOf e=1) (hct:P.cellsOf t=n)
  (h:DataW.trod enc P w base sp held fuel t cs=some x):∃ l:List UInt8,l.length=n∧cs=l.map bv:=by
 cases fuel with
 | zero=>simp [DataW.trod] at h
 | succ fuel =>
  simp only [DataW.trod,ht,hce,hct,Nat.mul_one] at h
  split at h
  ·rename_i hl
   obtain ⟨xs,hm,hx⟩:=Option.map_eq_some_iff.1 h
   have hone:∀ i,i<n→∃ u:UInt8,cs[i]? = some (bv u):=by
    intro i hi
    obtain ⟨b,hb,hf⟩:=Lib.mapM_at hm i i (by simp [hi])
    obtain ⟨z,hc,rfl,hw⟩:=DataW.trod_int he hf
    have h1:cs[i]? = some (.int .u8 z):=by
     have:=congrArg (·[0]?) hc
     simpa [List.getElem?_take,List.getElem?_drop] using this
    have hz:0≤z∧z<256:=by
     simp [Lit.wf,IntKind.bits,IntKind.signed,IntKind.min,IntKind.max] at hw
     omega
    refine ⟨UInt8.ofNat z.toNat,?_⟩
    rw [h1]
    unfold bv
    congr 2
    rw [UInt8.toNat_ofNat']
    omega
   refine ⟨cs.map (λv=>match v with | .int _ z=>UInt8.ofNat z.toNat | _=>0),by simpa using hl,?_⟩
   apply List.ext_getElem?
   intro i
   by_cases hi:i<n
   ·obtain ⟨u,hu⟩:=hone i hi
    simp [hu,bv]
   ·have:cs.length≤i:=by omega
    simp [List.getElem?_eq_none this]
  ·cases h
end
theorem u64_wf {n:Int} (h:(Lit.int .u64 n).wf=true):∃ m:Nat,n=(m:Int)∧m<18446744073709551616:=by
 have hz:0≤n∧n<18446744073709551616:=by
  simp [Lit.wf,IntKind.bits,IntKind.signed,IntKind.min,IntKind.max] at h
  omega
 exact ⟨n.toNat,by omega,by omega⟩
end
end
section
section
open Go.RowKit Go.Lib
theorem run_addc (x y c:Nat) (hc:c≤1) (w:World) :
  (callFunc 183 #[.int .u64 x,.int .u64 y,.int .u64 c]).run Tryz.prog w =
   .ok (.value (.tuple #[.int .u64 (((x+y+c)%18446744073709551616:Nat):Int),.int .u64 (((x+y+c) / 18446744073709551616:Nat):Int)])) w:=by
 rw [run_callFunc_extern Tryz.func183 (by kernel_rfl) (by kernel_rfl) (by kernel_rfl) (e:=add64Entry) (by kernel_rfl),run_add64 x y c (by omega) (by omega) (by omega) (by omega)]
 simp only [Result.andThen]
 congr 5 <;> omega
theorem run_subc (x y b:Nat) (hb:b≤1) (w:World) :
  (callFunc 181 #[.int .u64 x,.int .u64 y,.int .u64 b]).run Tryz.prog w =
   .ok (.value (.tuple #[.int .u64 (((x+18446744073709551616 - y - b)%18446744073709551616:Nat):Int),.int .u64 ((if x<y+b then 1 else 0:Nat):Int)])) w:=by
 rw [run_callFunc_extern Tryz.func181 (by kernel_rfl) (by kernel_rfl) (by kernel_rfl) (e:=sub64Entry) (by kernel_rfl),run_sub64 x y b hb]
 rfl
theorem run_add0 (x y:Nat) (w:World) :
  (callFunc 183 #[.int .u64 x,.int .u64 y,.int .u64 0]).run Tryz.prog w =
   .ok (.value (.tuple #[.int .u64 (((x+y)%18446744073709551616:Nat):Int),.int .u64 (((x+y) / 18446744073709551616:Nat):Int)])) w:=run_addc x y 0 (by omega) w
theorem run_sub0 (x y:Nat) (w:World) :
  (callFunc 181 #[.int .u64 x,.int .u64 y,.int .u64 0]).run Tryz.prog w =
   .ok (.value (.tuple #[.int .u64 (((x+18446744073709551616 - y)%18446744073709551616:Nat):Int),.int .u64 ((if x<y then 1 else 0:Nat):Int)])) w:=run_subc x y 0 (by omega) w
theorem addc_ex (x y c:Nat) (hx:x<18446744073709551616) (hy:y<18446744073709551616) (hc:c≤1):∃ s k:Nat,s<18446744073709551616∧k≤1∧s+18446744073709551616*k=x+y+c∧∀ w,(callFunc 183 #[.int .u64 x,.int .u64 y,.int .u64 c]).run Tryz.prog w=.ok (.value (.tuple #[.int .u64 (s:Int),.int .u64 (k:Int)])) w :=
 ⟨_,_,by omega,by omega,by omega,run_addc x y c hc⟩
theorem subc_ex (x y c:Nat) (hx:x<18446744073709551616) (hy:y<18446744073709551616) (hc:c≤1):∃ s k:Nat,s<18446744073709551616∧k≤1∧s+y+c=x+18446744073709551616*k∧∀ w,(callFunc 181 #[.int .u64 x,.int .u64 y,.int .u64 c]).run Tryz.prog w=.ok (.value (.tuple #[.int .u64 (s:Int),.int .u64 (k:Int)])) w :=
 ⟨_,_,by omega,by split <;> omega,by split <;> omega,run_subc x y c hc⟩
theorem add0_ex (x y:Nat) (hx:x<18446744073709551616) (hy:y<18446744073709551616):∃ s k:Nat,s<18446744073709551616∧k≤1∧s+18446744073709551616*k=x+y∧∀ w,(callFunc 183 #[.int .u64 x,.int .u64 y,.int .u64 0]).run Tryz.prog w=.ok (.value (.tuple #[.int .u64 (s:Int),.int .u64 (k:Int)])) w :=
 ⟨_,_,by omega,by omega,by omega,run_add0 x y⟩
theorem sub0_ex (x y:Nat) (hx:x<18446744073709551616) (hy:y<18446744073709551616):∃ s k:Nat,s<18446744073709551616∧k≤1∧s+y=x+18446744073709551616*k∧∀ w,(callFunc 181 #[.int .u64 x,.int .u64 y,.int .u64 0]).run Tryz.prog w=.ok (.value (.tuple #[.int .u64 (s:Int),.int .u64 (k:Int)])) w :=
 ⟨_,_,by omega,by split <;> omega,by split <;> omega,run_sub0 x y⟩
theorem below_alloc2 (w:World) (o o':Obj):Below w.heap.size w ((w.alloc o).alloc o'):=((Below.refl _ _).alloc (Nat.le_refl _) _).alloc (by simp) _
theorem below_alloc3 (w:World) (o o' o'':Obj):Below w.heap.size w (((w.alloc o).alloc o').alloc o''):=(below_alloc2 w o o').alloc (by simp; omega) _
theorem blk_new2 (w:World) (o:Obj) (t:TypeId) (cs:Array Value):Blk ((w.alloc o).alloc (.cells cs t)) (w.heap.size+1) t cs:=heap_alloc2_new w _ _
theorem blk_new3 (w:World) (o o':Obj) (t:TypeId) (cs:Array Value):Blk (((w.alloc o).alloc o').alloc (.cells cs t)) (w.heap.size+2) t cs:=by
 have h:=Blk.new ((w.alloc o).alloc o') t cs
 have e:((w.alloc o).alloc o').heap.size=w.heap.size+2:=by simp
 rwa [e] at h
theorem heap_new3 (w:World) (o o' o'':Obj):(((w.alloc o).alloc o').alloc o'').heap[w.heap.size+1+1]? = some o'':=by
 have h:=heap_alloc_new ((w.alloc o).alloc o') o''
 have e:((w.alloc o).alloc o').heap.size=w.heap.size+1+1:=by simp
 rwa [e] at h
theorem blk_new4 (w:World) (o o' o'':Obj) (t:TypeId) (cs:Array Value):Blk ((((w.alloc o).alloc o').alloc o'').alloc (.cells cs t)) (w.heap.size+3) t cs:=by
 have h:=Blk.new (((w.alloc o).alloc o').alloc o'') t cs
 have e:(((w.alloc o).alloc o').alloc o'').heap.size=w.heap.size+3:=by simp
 rwa [e] at h
section
variable {P:Program} {ops:Array Oper} {Q:Exit→Act→World→Prop} {rest:List Oper} {a:Act} {w:World} {d:Option Tmp} {t:TypeId} {p:String} {af:Array Edge} {g:Option (Nat×Bool)}
theorem here_load {ty:TypeId} {x:Operand} (h:wpList P ops Q (⟨d,.load ty x,t,p,af,g⟩::rest) a w):wpList P ops Q (⟨d,.load ty x,t,p,af,g⟩::rest) a w:=h
theorem here_store {ty:TypeId} {x y:Operand} (h:wpList P ops Q (⟨d,.store ty x y,t,p,af,g⟩::rest) a w):wpList P ops Q (⟨d,.store ty x y,t,p,af,g⟩::rest) a w:=h
end
theorem res_cell_tmp {P:Program} {fn:Func} {p u:Tmp} {ty:TypeId} (h:fn.results=#[.cell p ty,.tmp u]) (tmps:Array Value) (w:World) (g:Nat) (t:TypeId) (cs:Array Value) (v:Value) (d:TypeDesc)
  (hp:tmps.getD p undef=.pointer (some ⟨g,0,none⟩)) (hg:Blk w g t cs) (hv:tmps.getD u undef=v)
  (hu:P.underlying ty=some d) (hd:(match d with | .struct _ | .array _ _=>true | _=>false)=true) (hi:(P.info? ty).map (·.size)=some cs.size) :
  (results fn tmps).run P w=.ok (.tuple #[.agg cs,v]) w:=by
 rw [results_cell_tmp h,hp,hv]
 simp [asAddr,run_loadVar_row w g t ty cs (0,0) d hg hu hd hi]
theorem res_tmp_cell {P:Program} {fn:Func} {p u:Tmp} {ty:TypeId} (h:fn.results=#[.tmp u,.cell p ty]) (tmps:Array Value) (w:World) (g:Nat) (t:TypeId) (cs:Array Value) (v:Value) (d:TypeDesc)
  (hp:tmps.getD p undef=.pointer (some ⟨g,0,none⟩)) (hg:Blk w g t cs) (hv:tmps.getD u undef=v)
  (hu:P.underlying ty=some d) (hd:(match d with | .struct _ | .array _ _=>true | _=>false)=true) (hi:(P.info? ty).map (·.size)=some cs.size) :
  (results fn tmps).run P w=.ok (.tuple #[v,.agg cs]) w:=by
 have hp':tmps[p]?.getD undef=.pointer (some ⟨g,0,none⟩):=by simpa using hp
 have hv':tmps[u]?.getD undef=v:=by simpa using hv
 simp [results,h,hp',hv',asAddr,run_loadVar_row w g t ty cs (0,0) d hg hu hd hi,Result.andThen]
theorem res_two_cells {P:Program} {fn:Func} {p q:Tmp} {ty ty2:TypeId} (h:fn.results=#[.cell p ty,.cell q ty2]) (tmps:Array Value) (w:World) (g g2:Nat) (t t2:TypeId) (cs cs2:Array Value) (d d2:TypeDesc)
  (hp:tmps.getD p undef=.pointer (some ⟨g,0,none⟩)) (hg:Blk w g t cs) (hq:tmps.getD q undef=.pointer (some ⟨g2,0,none⟩)) (hg2:Blk w g2 t2 cs2)
  (hu:P.underlying ty=some d) (hd:(match d with | .struct _ | .array _ _=>true | _=>false)=true) (hi:(P.info? ty).map (·.size)=some cs.size)
  (hu2:P.underlying ty2=some d2) (hd2:(match d2 with | .struct _ | .array _ _=>true | _=>false)=true) (hi2:(P.info? ty2).map (·.size)=some cs2.size) :
  (results fn tmps).run P w=.ok (.tuple #[.agg cs,.agg cs2]) w:=by
 have hp':tmps[p]?.getD undef=.pointer (some ⟨g,0,none⟩):=by simpa using hp
 have hq':tmps[q]?.getD undef=.pointer (some ⟨g2,0,none⟩):=by simpa using hq
 simp [results,h,hp',hq',asAddr,run_loadVar_row w g t ty cs (0,0) d hg hu hd hi,run_loadVar_row w g2 t2 ty2 cs2 (0,0) d2 hg2 hu2 hd2 hi2,Result.andThen]
theorem split_any (w:World) (n:Nat):Calls Tryz.prog 242 #[fv n] w λe w'=>e=.returned (fv n)∧Below w.heap.size w w':=by
 unfold fv qv
 go_enter Tryz.func242,Tryz.ntmps242
 go_wp2
 exact bodyPost_ret (results_cell_row rfl _ _ (w.heap.size+1) _ _ (0,0) _ rfl (heap_alloc2_new w _ _) Tryz.underlying280 rfl (by kernel_rfl)) rfl ⟨rfl,below_alloc2 w _ _⟩
theorem number_any (w:World) (n:Nat):Calls Tryz.prog 243 #[fv n] w λe w'=>e=.returned (fv n)∧Below w.heap.size w w':=by
 unfold fv qv
 go_enter Tryz.func243,Tryz.ntmps243
 go_wp2
 exact bodyPost_ret (results_cell_row rfl _ _ (w.heap.size+1) _ _ (0,0) _ rfl (heap_alloc2_new w _ _) Tryz.underlying46 rfl (by kernel_rfl)) rfl ⟨rfl,below_alloc2 w _ _⟩
set_option maxHeartbeats 1000000 in
theorem plus_any (w:World) (x y:Nat) (hx:x<(2^256)) (hy:y<(2^256)):Calls Tryz.prog 257 #[fv x,fv y] w λe w'=>(∃ s k:Nat,s<(2^256)∧k≤1∧s+(2^256)*k=x+y∧e=.returned (.tuple #[fv s,.int .u64 (k:Int)]))∧Below w.heap.size w w':=by
 obtain ⟨x0,x1,x2,x3,a0,a1,a2,a3,ex,fx⟩:=words_of x hx
 obtain ⟨y0,y1,y2,y3,b0,b1,b2,b3,ey,fy⟩:=words_of y hy
 rw [fx,fy]
 obtain ⟨s0,c0,d0,k0,e0,r0⟩:=add0_ex x0 y0 a0 b0
 obtain ⟨s1,c1,d1,k1,e1,r1⟩:=addc_ex x1 y1 c0 a1 b1 k0
 obtain ⟨s2,c2,d2,k2,e2,r2⟩:=addc_ex x2 y2 c1 a2 b2 k1
 obtain ⟨s3,c3,d3,k3,e3,r3⟩:=addc_ex x3 y3 c2 a3 b3 k2
 have fin:s0+18446744073709551616*s1+340282366920938463463374607431768211456*s2+6277101735386680763835789423207666416102355444464034512896*s3+(2^256)*c3=x+y:=by omega
 have hs:=Lib.hid (fv_mk s0 s1 s2 s3 d0 d1 d2 d3)
 have hlt:=fv_lt s0 s1 s2 s3 d0 d1 d2 d3
 clear ex ey fx fy e0 e1 e2 e3 a0 a1 a2 a3 b0 b1 b2 b3
 go_enter Tryz.func257,Tryz.ntmps257
 go_wp2_with (first | (simp only [r0,r1,r2,r3]) | (with_reducible refine here_load (d:=some 45) ?_; refine wpList_load_row rfl _ _ rfl (w.heap.size+1+1) rfl _ _ (0,0) _ (heap_new3 w _ _ _) Tryz.underlying280 rfl (by kernel_rfl) ?_))
 exact bodyPost_ret (res_cell_tmp rfl _ _ (w.heap.size+2) _ _ _ _ rfl (blk_new3 w _ _ _ _) rfl Tryz.underlying280 rfl (by kernel_rfl)) rfl ⟨⟨_,c3,hlt,k3,fin,by rw [← hs.out]; rfl⟩,below_alloc3 w _ _ _⟩
set_option maxHeartbeats 1000000 in
theorem minus_any (w:World) (x y:Nat) (hx:x<(2^256)) (hy:y<(2^256)):Calls Tryz.prog 240 #[fv x,fv y] w λe w'=>(∃ s k:Nat,s<(2^256)∧k≤1∧s+y=x+(2^256)*k∧e=.returned (.tuple #[fv s,.int .u64 (k:Int)]))∧Below w.heap.size w w':=by
 obtain ⟨x0,x1,x2,x3,a0,a1,a2,a3,ex,fx⟩:=words_of x hx
 obtain ⟨y0,y1,y2,y3,b0,b1,b2,b3,ey,fy⟩:=words_of y hy
 rw [fx,fy]
 obtain ⟨s0,c0,d0,k0,e0,r0⟩:=sub0_ex x0 y0 a0 b0
 obtain ⟨s1,c1,d1,k1,e1,r1⟩:=subc_ex x1 y1 c0 a1 b1 k0
 obtain ⟨s2,c2,d2,k2,e2,r2⟩:=subc_ex x2 y2 c1 a2 b2 k1
 obtain ⟨s3,c3,d3,k3,e3,r3⟩:=subc_ex x3 y3 c2 a3 b3 k2
 have fin:s0+18446744073709551616*s1+340282366920938463463374607431768211456*s2+6277101735386680763835789423207666416102355444464034512896*s3+y=x+(2^256)*c3:=by omega
 have hs:=Lib.hid (fv_mk s0 s1 s2 s3 d0 d1 d2 d3)
 have hlt:=fv_lt s0 s1 s2 s3 d0 d1 d2 d3
 clear ex ey fx fy e0 e1 e2 e3 a0 a1 a2 a3 b0 b1 b2 b3
 go_enter Tryz.func240,Tryz.ntmps240
 go_wp2_with (first | (simp only [r0,r1,r2,r3]) | (with_reducible refine here_load (d:=some 45) ?_; refine wpList_load_row rfl _ _ rfl (w.heap.size+1+1) rfl _ _ (0,0) _ (heap_new3 w _ _ _) Tryz.underlying280 rfl (by kernel_rfl) ?_))
 exact bodyPost_ret (res_cell_tmp rfl _ _ (w.heap.size+2) _ _ _ _ rfl (blk_new3 w _ _ _ _) rfl Tryz.underlying280 rfl (by kernel_rfl)) rfl ⟨⟨_,c3,hlt,k3,fin,by rw [← hs.out]; rfl⟩,below_alloc3 w _ _ _⟩
end
end
section
section
open Go.RowKit Go.Lib
theorem wpList_store_blk {P:Program} {ops:Array Oper} {rest:List Oper} {o:Oper} {a:Act} {w1:World} {Q:Exit→Act→World→Prop} (hgd:o.guard=none) (ty:TypeId) (x y:Operand) (ho:o.op=.store ty x y)
  (g:Nat) (cells:Array Value) (hx:a.eval x=.pointer (some ⟨g,0,none⟩)) (hy:a.eval y=.agg cells) (t:TypeId) (c:Array Value) (hg:Blk w1 g t c)
  (hi:(P.info? ty).map (·.size)=some cells.size) (hold:c.size=cells.size) (h1:cells.all (·.oneCell')=true)
  (h:∀ w2,Blk w2 g t cells→(∀ B,B≤g→Below B w1 w2)→(∀ k,k≠g→∀ t' cs',Blk w1 k t' cs'→Blk w2 k t' cs')→wpList P ops Q rest (a.put o.dst undef) w2):wpList P ops Q (o::rest) a w1 :=
 wpList_store_row hgd ty x y ho g cells hx hy t c hg hi hold h1
  (h _ (hg.setRow cells) (λ_ hB=>below_setRow (Below.refl _ _) hB _) (λ_ hk _ _ hb=>hb.setRow_far hk _))
theorem wpList_load_blk {P:Program} {ops:Array Oper} {rest:List Oper} {o:Oper} {a:Act} {w:World} {Q:Exit→Act→World→Prop} (hgd:o.guard=none) (ty:TypeId) (x:Operand) (ho:o.op=.load ty x)
  (g:Nat) (hx:a.eval x=.pointer (some ⟨g,0,none⟩)) (t:TypeId) (cs:Array Value) (d:TypeDesc) (hg:Blk w g t cs)
  (hu:P.underlying ty=some d) (hd:(match d with | .struct _ | .array _ _=>true | _=>false)=true) (hi:(P.info? ty).map (·.size)=some cs.size)
  (h:wpList P ops Q rest (a.put o.dst (.agg cs)) w):wpList P ops Q (o::rest) a w :=
 wpList_load_row hgd ty x ho g hx t cs (0,0) d hg hu hd hi h
theorem Blk.set0 {w:World} {g:Nat} {t:TypeId} {a b c d:Value} (h:Blk w g t #[a,b,c,d]) (u:Value):Blk (w.setCell ⟨g,0,none⟩ u) g t #[u,b,c,d]:=h.set_ 0 u
theorem fv_G:fv 4294968273=.agg #[.int .u64 4294968273,.int .u64 0,.int .u64 0,.int .u64 0]:=rfl
theorem fv_0:fv 0=.agg #[.int .u64 0,.int .u64 0,.int .u64 0,.int .u64 0]:=rfl
set_option maxHeartbeats 1000000 in
theorem reduce_any (w:World) (x:Nat) (hx:x<(2^256)):Calls Tryz.prog 241 #[fv x] w λe w'=>e=.returned (fv (x%pM))∧Below w.heap.size w w':=by
 obtain ⟨x0,x1,x2,x3,a0,a1,a2,a3,ex,fx⟩:=words_of x hx
 have hp:=λw=>plus_any w x 4294968273 hx (by decide)
 simp only [fx,fv_G] at hp
 have FX:=Lib.hid fx
 have hred:=Lib.hid (red_once x hx)
 rw [fx]
 clear ex fx a0 a1 a2 a3
 go_enter Tryz.func241,Tryz.ntmps241
 go_wp2_with fail
 refine (hp _).mono ?_
 rintro e w1 ⟨⟨s,k,hs,hk,he,rfl⟩,hb⟩
 have hX:Blk w1 w.heap.size 280 _:=(Blk.alloc (Blk.new w _ _) _).below hb (by simp <;> omega)
 have hR:Blk w1 (w.heap.size+1) 280 _:=(blk_new2 w _ _ _).below hb (by simp <;> omega)
 have hB:Below w.heap.size w w1:=(below_alloc2 w _ _).trans (hb.mono (by simp <;> omega))
 have hsz:w.heap.size+2≤w1.heap.size:=by have:=hb.size; simp at this; omega
 obtain ⟨s0,s1,s2,s3,b0,b1,b2,b3,es,fs⟩:=words_of s hs
 have Fd:=Lib.hid fs
 have HE:=Lib.hid he
 rw [fs]
 clear es fs he hb hp
 rcases (show k=0∨k=1 by omega) with rfl | rfl
 ·go_wp2_with (first | ((with_reducible refine here_load (d:=some 13) ?_); refine wpList_load_blk rfl _ _ rfl (w.heap.size) rfl _ _ _ (hX.alloc _) Tryz.underlying280 rfl (by kernel_rfl) ?_) | ((with_reducible refine here_store ?_); refine wpList_store_blk rfl _ _ _ rfl (w.heap.size+1) _ rfl rfl _ _ (hR.alloc _) (by kernel_rfl) (by rfl) (by simp [Value.oneCell']) ?_; intro w2 hL hB2 hK2))
  exact bodyPost_ret (results_cell_row rfl _ _ (w.heap.size+1) _ _ (0,0) _ rfl hL Tryz.underlying280 rfl (by kernel_rfl)) rfl ⟨by rw [hred.out,if_pos (by have:=HE.out; omega),FX.out],(hB.alloc (by omega) _).trans (hB2 _ (by omega))⟩
 ·go_wp2_with (first | ((with_reducible refine here_load (d:=some 14) ?_); refine wpList_load_blk rfl _ _ rfl (w1.heap.size) rfl _ _ _ (Blk.new w1 _ _) Tryz.underlying280 rfl (by kernel_rfl) ?_) | ((with_reducible refine here_store ?_); refine wpList_store_blk rfl _ _ _ rfl (w.heap.size+1) _ rfl rfl _ _ (hR.alloc _) (by kernel_rfl) (by rfl) (by simp [Value.oneCell']) ?_; intro w2 hL hB2 hK2))
  exact bodyPost_ret (results_cell_row rfl _ _ (w.heap.size+1) _ _ (0,0) _ rfl hL Tryz.underlying280 rfl (by kernel_rfl)) rfl ⟨by rw [hred.out,if_neg (by have:=HE.out; omega),show x+4294968273 - (2^256)=s by have:=HE.out; omega,Fd.out],(hB.alloc (by omega) _).trans (hB2 _ (by omega))⟩
theorem fv_kG (k:Nat) (hk:k≤1):Value.agg #[.int .u64 ((k:Int)*4294968273),.int .u64 0,.int .u64 0,.int .u64 0]=fv (k*4294968273):=by
 rcases (show k=0∨k=1 by omega) with rfl | rfl <;> rfl
set_option maxHeartbeats 1000000 in
theorem add_any (w:World) (x y:Nat) (hx:x<(2^256)) (hy:y<(2^256)):Calls Tryz.prog 246 #[fv x,fv y] w λe w'=>(∃ z s k u j:Nat,s<(2^256)∧s+(2^256)*k=x+y∧u<(2^256)∧u+(2^256)*j=s+k*4294968273∧z=u+j*4294968273∧e=.returned (fv z))∧Below w.heap.size w w':=by
 obtain ⟨x0,x1,x2,x3,a0,a1,a2,a3,ex,fx⟩:=words_of x hx
 obtain ⟨y0,y1,y2,y3,b0,b1,b2,b3,ey,fy⟩:=words_of y hy
 have hp:=λw=>plus_any w x y hx hy
 simp only [fx,fy] at hp
 rw [fx,fy]
 clear ex fx a0 a1 a2 a3 ey fy b0 b1 b2 b3 hx hy
 go_enter Tryz.func246,Tryz.ntmps246
 go_wp2_with fail
 refine (hp _).mono ?_
 rintro e w1 ⟨⟨s,k,hs,hk,he,rfl⟩,hb⟩
 have hR:Blk w1 (w.heap.size+2) 280 _:=(blk_new3 w _ _ _ _).below hb (by simp <;> omega)
 have hB:Below w.heap.size w w1:=(below_alloc3 w _ _ _).trans (hb.mono (by simp <;> omega))
 have hsz:w.heap.size+3≤w1.heap.size:=by have:=hb.size; simp at this; omega
 obtain ⟨s0,s1,s2,s3,c0,c1,c2,c3,es,fs⟩:=words_of s hs
 have HE:=Lib.hid he
 have HS:=Lib.hid hs
 have hq:=λw=>plus_any w s (k*4294968273) hs (by omega)
 simp only [fs, ← fv_kG k hk] at hq
 rw [fs]
 clear es fs he hb hp c0 c1 c2 c3 hs
 go_wp2_with fail
 refine (hq _).mono ?_
 rintro e w2 ⟨⟨u,j,hu,hj,hf,rfl⟩,hb⟩
 have hR2:Blk w2 (w.heap.size+2) 280 _:=(hR.alloc _).below hb (by simp <;> omega)
 have hT2:Blk w2 w1.heap.size 280 _:=(Blk.new w1 _ _).below hb (by simp)
 have hB2:Below w.heap.size w w2:=(hB.alloc (by omega) _).trans (hb.mono (by simp <;> omega))
 have hsz2:w1.heap.size+1≤w2.heap.size:=by have:=hb.size; simp at this; omega
 obtain ⟨u0,u1,u2,u3,d0,d1,d2,d3,eu,fu⟩:=words_of u hu
 have hu0:u0+j*4294968273<18446744073709551616:=by
  have:=HS.out
  rcases (show j=0∨j=1 by omega) with rfl | rfl <;> omega
 obtain ⟨jg,ejg⟩:∃ jg,jg=j*4294968273:=⟨_,rfl⟩
 obtain ⟨v0,ev0⟩:∃ v0,v0=u0+jg:=⟨_,rfl⟩
 have hJ:(j:Int)*4294968273=(jg:Int):=by omega
 have hV:(u0:Int)+(jg:Int)=(v0:Int):=by omega
 have hv0:v0<18446744073709551616:=by omega
 have HV:=Lib.hid (And.intro ev0 ejg)
 have HF:=Lib.hid hf
 have HU:=Lib.hid (And.intro eu (And.intro hu (And.intro d0 (And.intro d1 (And.intro d2 d3)))))
 rw [fu]
 clear eu fu hf hb hq hu d0 d1 d2 d3 hu0 ev0 ejg
 go_wp2_with (first | ((with_reducible refine here_store ?_); refine wpList_store_blk rfl _ _ _ rfl (w1.heap.size) _ rfl rfl _ _ (hT2) (by kernel_rfl) (by rfl) (by simp [Value.oneCell']) ?_; intro w3 hL3 hB3 hK3; have hR3:=hK3 _ (by omega) _ _ hR2; have hc3:=hL3.cell 0; have hf3:=hL3.frozen 0; simp only [List.getElem?_toArray,List.getElem?_cons_zero] at hc3) | ((with_reducible refine here_load (d:=some 27) ?_); refine wpList_load_blk rfl _ _ rfl (w1.heap.size) rfl _ _ _ (hL3.set0 _) Tryz.underlying280 rfl (by kernel_rfl) ?_) | ((with_reducible refine here_store ?_); refine wpList_store_blk rfl _ _ _ rfl (w.heap.size+2) _ rfl rfl _ _ (hR3.far (by simp <;> omega) _) (by kernel_rfl) (by rfl) (by simp [Value.oneCell']) ?_; intro w4 hL4 hB4 hK4))
 obtain ⟨eu,hu,d0,d1,d2,d3⟩:=HU.out
 obtain ⟨ev0,ejg⟩:=HV.out
 have hz:=fv_mk v0 u1 u2 u3 hv0 d1 d2 d3
 exact bodyPost_ret (results_cell_row rfl _ _ (w.heap.size+2) _ _ (0,0) _ rfl hL4 Tryz.underlying280 rfl (by kernel_rfl)) rfl ⟨⟨v0+18446744073709551616*u1+340282366920938463463374607431768211456*u2+6277101735386680763835789423207666416102355444464034512896*u3,s,k,u,j,HS.out,HE.out,hu,HF.out,by omega,by rw [← hz]⟩,hB2.trans ((hB3 _ (by omega)).trans ((Below.refl _ _).setCell (by simp <;> omega) _ |>.trans (hB4 _ (by omega))))⟩
end
end
section
section
open Go.RowKit Go.Lib
def fcs (n:Nat):Array Value:=#[qv (n%18446744073709551616),qv (n / 18446744073709551616%18446744073709551616),qv (n / 340282366920938463463374607431768211456%18446744073709551616),qv (n / 6277101735386680763835789423207666416102355444464034512896%18446744073709551616)]
theorem fv_fcs (n:Nat):fv n=.agg (fcs n):=rfl
theorem fcs_one (n:Nat):(fcs n).all (·.oneCell')=true:=by simp [fcs,qv,Value.oneCell']
theorem words_fv (n:Nat) (hn:n<(2^256)):∃ a b c d:Nat,fv n=.agg #[.int .u64 (a:Int),.int .u64 (b:Int),.int .u64 (c:Int),.int .u64 (d:Int)] :=
 (words_of n hn).imp λ_ h=>h.imp λ_ h=>h.imp λ_ h=>h.imp λ_ h=>h.2.2.2.2.2
theorem split_at {v:Value} (n:Nat) (h:fv n=v) (w:World):Calls Tryz.prog 242 #[v] w λe w'=>e=.returned (fv n)∧Below w.heap.size w w':=by
 subst h; exact split_any w n
theorem Gr.blk {w w':World} (h:Gr w w') {g:Nat} {t:TypeId} {cs:Array Value} (hg:Blk w g t cs):Blk w' g t cs:=Blk.below hg h hg.lt
theorem Below.gr {w a b:World} (h:Below w.heap.size w a) (g:Gr a b):Below w.heap.size w b:=Below.trans h (Below.mono g (Below.size h))
theorem fv_small (n:Nat) (hn:n<18446744073709551616):fv n=.agg #[.int .u64 (n:Int),.int .u64 0,.int .u64 0,.int .u64 0]:=(fv_mk n 0 0 0 hn (by omega) (by omega) (by omega)).symm
theorem plus_at {v1 v2:Value} (w:World) (x y s k:Nat) (h1:fv x=v1) (h2:fv y=v2) (hx:x<(2^256)) (hy:y<(2^256)) (hs:s<(2^256)) (he:s+(2^256)*k=x+y) :
  Calls Tryz.prog 257 #[v1,v2] w λe w'=>e=.returned (.tuple #[fv s,.int .u64 (k:Int)])∧Below w.heap.size w w':=by
 subst h1 h2
 refine (plus_any w x y hx hy).mono ?_
 rintro e w' ⟨⟨s',k',hs',hk',he',rfl⟩,hb⟩
 obtain rfl:k'=k:=by omega
 obtain rfl:s'=s:=by omega
 exact ⟨rfl,hb⟩
theorem minus_at {v1 v2:Value} (w:World) (x y s k:Nat) (h1:fv x=v1) (h2:fv y=v2) (hx:x<(2^256)) (hy:y<(2^256)) (hs:s<(2^256)) (he:s+y=x+(2^256)*k) :
  Calls Tryz.prog 240 #[v1,v2] w λe w'=>e=.returned (.tuple #[fv s,.int .u64 (k:Int)])∧Below w.heap.size w w':=by
 subst h1 h2
 refine (minus_any w x y hx hy).mono ?_
 rintro e w' ⟨⟨s',k',hs',hk',he',rfl⟩,hb⟩
 obtain rfl:k'=k:=by omega
 obtain rfl:s'=s:=by omega
 exact ⟨rfl,hb⟩
theorem wpList_load_fv {P:Program} {ops:Array Oper} {rest:List Oper} {o:Oper} {a:Act} {w:World} {Q:Exit→Act→World→Prop} (hgd:o.guard=none) (ty:TypeId) (x:Operand) (ho:o.op=.load ty x)
  (g:Nat) (hx:a.eval x=.pointer (some ⟨g,0,none⟩)) (n:Nat) (t:TypeId) (cs:Array Value) (d:TypeDesc) (hg:Blk w g t cs) (hf:fv n=.agg cs)
  (hu:P.underlying ty=some d) (hd:(match d with | .struct _ | .array _ _=>true | _=>false)=true) (hi:(P.info? ty).map (·.size)=some cs.size)
  (h:wpList P ops Q rest (a.put o.dst (fv n)) w):wpList P ops Q (o::rest) a w :=
 wpList_load_row hgd ty x ho g hx t cs (0,0) d hg hu hd hi (hf ▸ h)
section
variable {P:Program} {ops:Array Oper} {Q:Exit→Act→World→Prop} {md:Region.Mode} {ex:Nat→Bool}
theorem YieldsG.loadF {o:Oper} {a:Act} {w:World} {d:TypeDesc} (hw:Region.wanted o (yielded ops a.tmps)=true) (ty:TypeId) (x:Operand) (ho:o.op=.load ty x)
  (g:Nat) (hx:a.eval x=.pointer (some ⟨g,0,none⟩)) (n:Nat) (t:TypeId) (c:Array Value) (hg:Blk w g t c) (hf:fv n=.agg c)
  (hu:P.underlying ty=some d) (hd:d.isRow=true) (hi:(P.info? ty).map (·.size)=some c.size):YieldsG P ops o (fv n) a w:=by
 have h:=YieldsG.load (P:=P) (ops:=ops) (o:=o) (a:=a) (w:=w) hw ty x ho g 0 hx c.toList d hg.lt (λj v hj=>by
  rw [Nat.zero_add,hg.cell]
  simpa using hj) hu hd (by simpa using hi)
 rw [hf]
 simpa using h
theorem wpAnyG_store (i:Nat) {oi:Oper} {fuel:Nat} {listed:Array Bool} {a:Act} {w:World} (hi0:ops.toList[i]? = some oi) (hr:Region.ready md ops listed=[i])
  (hw:Region.wanted oi (yielded ops a.tmps)=true) (ty:TypeId) (x y:Operand) (ho:oi.op=.store ty x y) (g:Nat) (cells:Array Value) (hx:a.eval x=.pointer (some ⟨g,0,none⟩)) (hy:a.eval y=.agg cells)
  (t:TypeId) (c:Array Value) (hg:Blk w g t c) (hi:(P.info? ty).map (·.size)=some cells.size) (hold:c.size=cells.size) (h1:cells.all (·.oneCell')=true) (hex:ex i=true)
  (h:∀ w1,Gr w w1→∀ w2,(∀ B,B≤g→Below B w1 w2)→Blk w2 g t cells→wpAnyG P md ops Q ex fuel (listed.setIfInBounds i true) (a.put oi.dst undef) w2) :
  wpAnyG P md ops Q ex (fuel+1) listed a w :=
 wpAnyG_sole i hi0 hr hw (λw1 hw1 K hK=>wp_store_row ty x y ho g cells hx hy t c (hw1.blk hg) hi hold h1
  (hK _ _ (λe=>by rw [hex] at e; cases e) (h w1 hw1 _ (λ_ hB=>below_setRow (Below.refl _ _) hB _) ((hw1.blk hg).setRow cells))))
end
open Go.RowKit
section
variable {P:Program} {ops:Array Oper} {Q:Exit→Act→World→Prop} {md:Region.Mode} {ex:Nat→Bool}
theorem wpOp_putA {j:Nat} {oi oj:Oper} {v:Value} (hj:ops[j]? = some oj) (hap:oi.apart ops oj=true)
  (hsi:∀ cs b,oi.op≠.select cs b) (hsj:∀ cs b,oj.op≠.select cs b)
  (hQ:∀ c a w,Q (.panic c) (a.put oi.dst v) w→Q (.panic c) a w) {K:Act→World→Prop} {a:Act} {w:World}
  (hy:∀ w0,YieldsG P ops oi v a w0) (h:wpOp P ops Q j K (a.put oi.dst v) w) :
  wpOp P ops Q j (λa' w'=>(∀ w0,YieldsG P ops oi v a' w0)∧K (a'.put oi.dst v) w') a w:=by
 obtain ⟨h1,h2,h3⟩:=Oper.apart_spec hap
 have keep:∀ (a:Act),(∀ w0,YieldsG P ops oi v a w0)→∀ u w0,YieldsG P ops oi v (a.put oj.dst u) w0:=λa hy u w0 =>
  (hy w0).of_same (execOp_put oi hsi a oj.dst u h3) (wanted_put oi a oj.dst u h3)
 have keepD:∀ d w0,YieldsG P ops oi v { a with defers:=d::a.defers } w0:=λd w0=>(hy w0).of_same rfl rfl
 unfold wpOp at *
 simp only [hj] at *
 rw [wanted_put oj a oi.dst v h1] at h
 split
 ·rename_i hw
  simp only [hw,if_true] at h
  rcases h with h | ⟨hasks,hlets⟩
  case inr=>exact .inr ⟨by unfold Oper.asks at *; rw [execOp_put oj hsj a oi.dst v h1] at hasks; exact hasks,hlets⟩
  refine .inl ?_
  unfold Oper.wp at *
  rw [execOp_put oj hsj a oi.dst v h1] at h
  generalize (execOp a.eval oj).run P w=r at *
  cases r with
  | ok n w' =>
   cases n <;> simp only [Oper.upon] at h ⊢
   case value u=>exact ⟨keep a hy u,by rw [← Act.put_comm a v u h2]; exact h⟩
   case skip=>exact ⟨keep a hy _,by rw [← Act.put_comm a v undef h2]; exact h⟩
   case defer d =>
    refine ⟨keep _ (keepD d) _,?_⟩
    rw [← Act.put_comm _ v undef h2, ← Act.put_defers]
    exact h
   case enter f args =>
    refine Calls.mono h λe w'' he=>?_
    cases e with
    | returned u=>exact ⟨keep a hy u,by rw [← Act.put_comm a v u h2]; exact he⟩
    | panicked c=>exact hQ _ _ _ he
    | outgrown=>exact he
   case row row args=>exact Rows.mono h λu w'' he=>⟨keep a hy u,by rw [← Act.put_comm a v u h2]; exact he⟩
  | halt x w' =>
   cases x <;> simp only [Oper.upon] at h ⊢
   case panic u=>exact hQ _ _ _ h
 ·rename_i hw
  simp only [hw] at h
  exact ⟨keep a hy _,by rw [← Act.put_comm a v undef h2]; exact h⟩
theorem wpAnyG_firstA {i:Nat} {oi:Oper} {v:Value} (hi:ops[i]? = some oi) (hsel:∀ (j:Nat) (o:Oper) cs b,ops[j]? = some o→o.op≠.select cs b)
  (hQ:∀ c a w,Q (.panic c) (a.put oi.dst v) w→Q (.panic c) a w) :
  ∀ (fuel:Nat) (listed:Array Bool) (a:Act) (w:World),
   (∀ j oj,ops[j]? = some oj→j≠i→listed.getD j true=false→(∀ e∈oj.after,Region.binds md e=true→e.on≠i)→oi.apart ops oj=true) →
   i∈Region.ready md ops listed→(∀ w0,YieldsG P ops oi v a w0) →
   wpAnyG P md ops Q ex fuel (listed.setIfInBounds i true) (a.put oi.dst v) w→wpAnyG P md ops Q ex (fuel+1) listed a w:=by
 intro fuel
 induction fuel with
 | zero =>
  intro listed a w _ hr hy H w1 hw1
  refine ⟨λh=>(by rw [h] at hr; cases hr),λj hj=>?_⟩
  by_cases hji:j=i
  ·subst hji; exact (hy w1).wpOp hi (λw' h'=>⟨λ_=>h',wpAnyG_grow _ _ _ _ _ (hw1.trans h') H⟩)
  ·have:=ready_mono hj hji
   rw [H.1] at this
   cases this
 | succ fuel ih =>
  intro listed a w hfree hr hy H w1 hw1
  refine ⟨λh=>(by rw [h] at hr; cases hr),λj hj=>?_⟩
  by_cases hji:j=i
  ·subst hji; exact (hy w1).wpOp hi (λw' h'=>⟨λ_=>h',wpAnyG_grow _ _ _ _ _ (hw1.trans h') H⟩)
  ·have h1:=(H w1 hw1).2 j (ready_mono hj hji)
   obtain ⟨hjun,oj,hoj,hall⟩:=mem_ready.1 hj
   have hnot:∀ e∈oj.after,Region.binds md e=true→e.on≠i:=λe he hb heq=>by
    have h1:=hall e he hb
    have h0:=(mem_ready.1 hr).1
    rw [heq] at h1
    rcases Nat.lt_or_ge i listed.size with h' | h'
    ·simp [h'] at h0 h1; rw [h0] at h1; cases h1
    ·simp [Array.getElem?_eq_none h'] at h1
   have h2:=wpOp_putA hoj (hfree j oj hoj hji hjun hnot) (λcs b=>hsel i oi cs b hi) (λcs b=>hsel j oj cs b hoj) hQ hy h1
   have hfree':∀ k ok,ops[k]? = some ok→k≠i→(listed.setIfInBounds j true).getD k true=false →
     (∀ e∈ok.after,Region.binds md e=true→e.on≠i)→oi.apart ops ok=true:=λk ok hk hki hun hno=>by
    refine hfree k ok hk hki ?_ hno
    by_cases hjk:j=k
    ·subst hjk; exact hjun
    ·rw [getD_set_ne true hjk] at hun; exact hun
   refine wpOp_mono (λa' w' h3=>⟨h3.2.1,ih (listed.setIfInBounds j true) a' w' hfree' (ready_mono hr (Ne.symm hji)) h3.1 ?_⟩) h2
   rw [Array.setIfInBounds_comm _ _ hji]
   exact h3.2.2
def canTakeA (md:Region.Mode) (ops:Array Oper) (listed:Array Bool) (i:Nat):Bool :=
 Region.noSelect ops && Region.free md ops listed i && (Region.ready md ops listed).contains i
theorem wpAnyG_takeA (i:Nat) {oi:Oper} {v:Value} {fuel:Nat} {listed:Array Bool} {a:Act} {w:World} (hi0:ops.toList[i]? = some oi) (hc:canTakeA md ops listed i=true)
  (hQ:∀ c a w,Q (.panic c) (a.put oi.dst v) w→Q (.panic c) a w) (hy:∀ w0,YieldsG P ops oi v a w0)
  (h:wpAnyG P md ops Q ex fuel (listed.setIfInBounds i true) (a.put oi.dst v) w):wpAnyG P md ops Q ex (fuel+1) listed a w:=by
 have hi:ops[i]? = some oi:=by simpa using hi0
 unfold canTakeA at hc
 simp only [Bool.and_eq_true] at hc
 exact wpAnyG_firstA hi (Region.noSelect_spec hc.1.1) hQ fuel listed a w (Region.free_spec hi hc.1.2) (by simpa using hc.2) hy h
end
section
variable {P:Program} {ops:Array Oper} {Q:Exit→Act→World→Prop} {md:Region.Mode} {ex:Nat→Bool}
theorem wpAnyG_storeK (i:Nat) {oi:Oper} {fuel:Nat} {listed:Array Bool} {a:Act} {w:World} (hi0:ops.toList[i]? = some oi) (hr:Region.ready md ops listed=[i])
  (hw:Region.wanted oi (yielded ops a.tmps)=true) (ty:TypeId) (x y:Operand) (ho:oi.op=.store ty x y) (g:Nat) (cells:Array Value) (hx:a.eval x=.pointer (some ⟨g,0,none⟩)) (hy:a.eval y=.agg cells)
  (t:TypeId) (c:Array Value) (hg:Blk w g t c) (hi:(P.info? ty).map (·.size)=some cells.size) (hold:c.size=cells.size) (h1:cells.all (·.oneCell')=true) (hex:ex i=true)
  (h:∀ w1,Gr w w1→∀ w2,(∀ B,B≤g→Below B w1 w2)→(∀ k,k≠g→∀ t' cs',Blk w1 k t' cs'→Blk w2 k t' cs')→Blk w2 g t cells→wpAnyG P md ops Q ex fuel (listed.setIfInBounds i true) (a.put oi.dst undef) w2) :
  wpAnyG P md ops Q ex (fuel+1) listed a w :=
 wpAnyG_sole i hi0 hr hw (λw1 hw1 K hK=>wp_store_row ty x y ho g cells hx hy t c (hw1.blk hg) hi hold h1
  (hK _ _ (λe=>by rw [hex] at e; cases e) (h w1 hw1 _ (λ_ hB=>below_setRow (Below.refl _ _) hB _) (λ_ hk _ _ hb=>hb.setRow_far hk _) ((hw1.blk hg).setRow cells))))
theorem YieldsG.again {o:Oper} {a:Act} {w:World} (hw:Region.wanted o (yielded ops a.tmps)=true) (ty:TypeId) (x y:Operand) (ho:o.op=.store ty x y)
  (g:Nat) (cells:Array Value) (hx:a.eval x=.pointer (some ⟨g,0,none⟩)) (hy:a.eval y=.agg cells) (t:TypeId) (hg:Blk w g t cells)
  (hi:(P.info? ty).map (·.size)=some cells.size) (h1:cells.all (·.oneCell')=true):YieldsG P ops o undef a w :=
 .inl ⟨hw,λw1 hw1=>by
  have hg1:=hw1.blk hg
  unfold Gives execOp
  simp only [ho,hx,hy,Instr.storeAt,Instr.sureAddr,Sem.run_bind,Sem.run_pure,Result.andThen_ok,run_storeVar_row w1 g t ty cells cells hg1 hi rfl h1]
  refine ⟨trivial,rfl,rfl,rfl,by simp,λk _=>?_⟩
  by_cases hk:k=g
  ·subst hk; exact (hg1.setRow cells).trans hg1.symm
  ·exact heap_setRow_far w1 g k cells hk⟩
theorem wpAnyG_duo (i j:Nat) {oi oj:Oper} {fuel:Nat} {listed:Array Bool} {a:Act} {w:World} (hi0:ops.toList[i]? = some oi) (hj0:ops.toList[j]? = some oj) (hr:Region.ready md ops listed=[i,j])
  (hwi:Region.wanted oi (yielded ops a.tmps)=true) (hwj:Region.wanted oj (yielded ops a.tmps)=true)
  (h1:∀ w1,Gr w w1→∀ K:Act→World→Prop,(∀ a' w',(ex i=false→Gr w1 w')→wpAnyG P md ops Q ex fuel (listed.setIfInBounds i true) a' w'→K a' w')→Oper.wp P oi a w1 K Q)
  (h2:∀ w1,Gr w w1→∀ K:Act→World→Prop,(∀ a' w',(ex j=false→Gr w1 w')→wpAnyG P md ops Q ex fuel (listed.setIfInBounds j true) a' w'→K a' w')→Oper.wp P oj a w1 K Q) :
  wpAnyG P md ops Q ex (fuel+1) listed a w:=λw1 hw1 =>
 ⟨λh0=>(by rw [hr] at h0; cases h0),λm hm=>by
  rw [hr] at hm
  have hi:ops[i]? = some oi:=by simpa using hi0
  have hj:ops[j]? = some oj:=by simpa using hj0
  rcases (show m=i∨m=j by simpa using hm) with rfl | rfl
  ·refine wpOp_step hi (λK' hK=>?_)
   rw [if_pos hwi]
   exact h1 w1 hw1 K' (λa' w' h1 h2=>hK a' w' ⟨h1,h2⟩)
  ·refine wpOp_step hj (λK' hK=>?_)
   rw [if_pos hwj]
   exact h2 w1 hw1 K' (λa' w' h1 h2=>hK a' w' ⟨h1,h2⟩)⟩
end
end
end
section
section
open Go.RowKit
section
variable {P:Program} {ops:Array Oper} {Q:Exit→Act→World→Prop} {md:Region.Mode} {V:List (Nat×Obj)}
structure GrV (V:List (Nat×Obj)) (w w':World):Prop where
 os:w'.os=w.os
 tape:w'.tape=w.tape
 output:w'.output=w.output
 size:w.heap.size≤w'.heap.size
 block:∀ k,k<w.heap.size→w'.heap[k]? = w.heap[k]? ∨ ∃ o,(k,o)∈V∧w'.heap[k]? = some o
theorem GrV.refl (w:World):GrV V w w:=⟨rfl,rfl,rfl,Nat.le_refl _,λ_ _=>.inl rfl⟩
theorem GrV.trans {a b c:World} (h:GrV V a b) (k:GrV V b c):GrV V a c :=
 ⟨k.os.trans h.os,k.tape.trans h.tape,k.output.trans h.output,Nat.le_trans h.size k.size,λi hi=>by
  rcases k.block i (Nat.lt_of_lt_of_le hi h.size) with e | e
  ·rw [e]; exact h.block i hi
  ·exact .inr e⟩
theorem GrV.of_gr {w w':World} (h:Gr w w'):GrV V w w':=⟨h.os,h.tape,h.output,h.size,λk hk=>.inl (h.block k hk)⟩
theorem GrV.far {w w':World} (h:GrV V w w') {g:Nat} (hl:g<w.heap.size) (hg:V.all (λx=>x.1 != g)=true):w'.heap[g]? = w.heap[g]?:=by
 rcases h.block g hl with e | ⟨o,hm,_⟩
 ·exact e
 ·have:=List.all_eq_true.1 hg _ hm
  simp at this
theorem GrV.blk {w w':World} (h:GrV V w w') {g:Nat} {t:TypeId} {cs:Array Value} (hg:Blk w g t cs) (hf:V.all (λx=>x.1 != g)=true):Blk w' g t cs:=(h.far hg.lt hf).trans hg
theorem GrV.done {w w':World} (h:GrV V w w') {g:Nat} {t:TypeId} {cs:Array Value} (hg:Blk w g t cs) (hv:∀ o,(g,o)∈V→o=.cells cs t):Blk w' g t cs:=by
 rcases h.block g hg.lt with e | ⟨o,hm,e⟩
 ·exact e.trans hg
 ·rw [hv o hm] at e; exact e
theorem GrV.some {w w':World} (h:GrV V w w') {g n:Nat} {t:TypeId} {cs:Array Value} (hg:Blk w g t cs) (hn:cs.size=n) (hv:∀ o,(g,o)∈V→∃ c:Array Value,o=.cells c t∧c.size=n):∃ c:Array Value,Blk w' g t c∧c.size=n:=by
 rcases h.block g hg.lt with e | ⟨o,hm,e⟩
 ·exact ⟨cs,e.trans hg,hn⟩
 ·obtain ⟨c,rfl,hc⟩:=hv o hm
  exact ⟨c,e,hc⟩
theorem GrV.below {w w':World} (h:GrV V w w') {B:Nat} (hB:B≤w.heap.size) (hV:∀ x∈V,B≤x.1):Below B w w' :=
 ⟨h.os,h.tape,h.output,h.size,λk hk=>by
  rcases h.block k (by omega) with e | ⟨o,hm,_⟩
  ·exact e
  ·have:=hV _ hm
   simp at this
   omega⟩
theorem GrV.setRow {w:World} {g:Nat} {t:TypeId} {c cs:Array Value} (hg:Blk w g t c) (hm:(g,.cells cs t)∈V):GrV V w (w.setRow g cs) :=
 ⟨rfl,rfl,rfl,by simp,λk _=>by
  by_cases hk:k=g
  ·subst hk; exact .inr ⟨_,hm,hg.setRow cs⟩
  ·exact .inl (heap_setRow_far w g k cs hk)⟩
def GivesV (P:Program) (V:List (Nat×Obj)) (s:Sem Next) (v:Value) (w:World):Prop :=
 match s.run P w with
 | .ok (.value u) w'=>u=v∧GrV V w w'
 | .ok .skip w'=>v=undef∧GrV V w w'
 | .ok (.enter f args) w'=>Calls P f args w' λe w''=>e=.returned v∧GrV V w w''
 | _=>False
def YieldsV (P:Program) (V:List (Nat×Obj)) (ops:Array Oper) (o:Oper) (v:Value) (a:Act) (w:World):Prop :=
 (Region.wanted o (yielded ops a.tmps)=true∧∀ w1,GrV V w w1→GivesV P V (execOp a.eval o) v w1)∨(Region.wanted o (yielded ops a.tmps)=false∧v=undef)
theorem YieldsV.of_same {o:Oper} {v:Value} {a a':Act} {w:World} (hy:YieldsV P V ops o v a w) (he:execOp a'.eval o=execOp a.eval o)
  (hw:Region.wanted o (yielded ops a'.tmps)=Region.wanted o (yielded ops a.tmps)):YieldsV P V ops o v a' w:=by
 unfold YieldsV at *
 rw [he,hw]
 exact hy
theorem YieldsV.grow {o:Oper} {v:Value} {a:Act} {w w1:World} (hy:YieldsV P V ops o v a w) (hg:GrV V w w1):YieldsV P V ops o v a w1 :=
 hy.imp (λ⟨h,k⟩=>⟨h,λw2 h2=>k w2 (hg.trans h2)⟩) id
theorem YieldsV.wpOp {i:Nat} {o:Oper} {v:Value} {a:Act} (hi:ops[i]? = some o) {K:Act→World→Prop} {w:World} (hy:YieldsV P V ops o v a w)
  (h:∀ w',GrV V w w'→K (a.put o.dst v) w'):wpOp P ops Q i K a w:=by
 unfold Go.wpOp
 simp only [hi]
 rcases hy with ⟨hw,hv⟩ | ⟨hw,rfl⟩
 ·simp only [hw,if_true]
  refine .inl ?_
  have h0:=hv w (GrV.refl w)
  unfold GivesV at h0
  unfold Oper.wp
  generalize (execOp a.eval o).run P w=r at *
  cases r with
  | ok n w' =>
   cases n <;> simp only [Oper.upon] at h0 ⊢
   case value u=>rw [h0.1]; exact h _ h0.2
   case skip=>rw [← h0.1]; exact h _ h0.2
   case enter f args =>
    refine Calls.mono h0 λe w'' he=>?_
    rw [he.1]
    exact h _ he.2
  | halt x w'=>cases x <;> exact h0.elim
 ·simp only [hw,Bool.false_eq_true,if_false]
  exact h _ (GrV.refl w)
theorem wpOp_putV {j:Nat} {oi oj:Oper} {v:Value} {w0:World} (hj:ops[j]? = some oj) (hap:oi.apart ops oj=true)
  (hsi:∀ cs b,oi.op≠.select cs b) (hsj:∀ cs b,oj.op≠.select cs b)
  (hQ:∀ c a w,Q (.panic c) (a.put oi.dst v) w→Q (.panic c) a w) {K:Act→World→Prop} {a:Act} {w:World}
  (hy:YieldsV P V ops oi v a w0) (h:wpOp P ops Q j K (a.put oi.dst v) w) :
  wpOp P ops Q j (λa' w'=>YieldsV P V ops oi v a' w0∧K (a'.put oi.dst v) w') a w:=by
 obtain ⟨h1,h2,h3⟩:=Oper.apart_spec hap
 have keep:∀ (a:Act),YieldsV P V ops oi v a w0→∀ u,YieldsV P V ops oi v (a.put oj.dst u) w0:=λa hy u =>
  hy.of_same (execOp_put oi hsi a oj.dst u h3) (wanted_put oi a oj.dst u h3)
 have keepD:∀ d,YieldsV P V ops oi v { a with defers:=d::a.defers } w0:=λd=>hy.of_same rfl rfl
 unfold wpOp at *
 simp only [hj] at *
 rw [wanted_put oj a oi.dst v h1] at h
 split
 ·rename_i hw
  simp only [hw,if_true] at h
  rcases h with h | ⟨hasks,hlets⟩
  case inr=>exact .inr ⟨by unfold Oper.asks at *; rw [execOp_put oj hsj a oi.dst v h1] at hasks; exact hasks,hlets⟩
  refine .inl ?_
  unfold Oper.wp at *
  rw [execOp_put oj hsj a oi.dst v h1] at h
  generalize (execOp a.eval oj).run P w=r at *
  cases r with
  | ok n w' =>
   cases n <;> simp only [Oper.upon] at h ⊢
   case value u=>exact ⟨keep a hy u,by rw [← Act.put_comm a v u h2]; exact h⟩
   case skip=>exact ⟨keep a hy _,by rw [← Act.put_comm a v undef h2]; exact h⟩
   case defer d =>
    refine ⟨keep _ (keepD d) _,?_⟩
    rw [← Act.put_comm _ v undef h2, ← Act.put_defers]
    exact h
   case enter f args =>
    refine Calls.mono h λe w'' he=>?_
    cases e with
    | returned u=>exact ⟨keep a hy u,by rw [← Act.put_comm a v u h2]; exact he⟩
    | panicked c=>exact hQ _ _ _ he
    | outgrown=>exact he
   case row row args=>exact Rows.mono h λu w'' he=>⟨keep a hy u,by rw [← Act.put_comm a v u h2]; exact he⟩
  | halt x w' =>
   cases x <;> simp only [Oper.upon] at h ⊢
   case panic u=>exact hQ _ _ _ h
 ·rename_i hw
  simp only [hw] at h
  exact ⟨keep a hy _,by rw [← Act.put_comm a v undef h2]; exact h⟩
def wpAnyV (P:Program) (V:List (Nat×Obj)) (md:Region.Mode) (ops:Array Oper) (Q:Exit→Act→World→Prop):Nat→Array Bool→Act→World→Prop
 | 0,listed,a,w=>Region.ready md ops listed=[]∧∀ w1,GrV V w w1→Q .normal a w1
 | fuel+1,listed,a,w=>∀ w1,GrV V w w1 →
  (Region.ready md ops listed=[]→Q .normal a w1) ∧
  ∀ i∈Region.ready md ops listed,wpOp P ops Q i (λa' w'=>GrV V w1 w'∧wpAnyV P V md ops Q fuel (listed.setIfInBounds i true) a' w') a w1
theorem wpAny_of_V:∀ (fuel:Nat) (listed:Array Bool) (a:Act) (w:World),wpAnyV P V md ops Q fuel listed a w→wpAny P md ops Q fuel listed a w
 | 0,_,_,w,h=>⟨h.1,h.2 w (GrV.refl w)⟩
 | fuel+1,_,_,w,h=>⟨(h w (GrV.refl w)).1,λi hi=>wpOp_mono (λa' w' h'=>wpAny_of_V fuel _ a' w' h'.2) ((h w (GrV.refl w)).2 i hi)⟩
theorem wpAnyV_grow:∀ (fuel:Nat) (listed:Array Bool) (a:Act) (w w1:World),GrV V w w1→wpAnyV P V md ops Q fuel listed a w→wpAnyV P V md ops Q fuel listed a w1
 | 0,_,_,_,_,hg,h=>⟨h.1,λw2 h2=>h.2 w2 (hg.trans h2)⟩
 | _+1,_,_,_,_,hg,h=>λw2 h2=>h w2 (hg.trans h2)
theorem wpAnyV_first {i:Nat} {oi:Oper} {v:Value} (hi:ops[i]? = some oi) (hsel:∀ (j:Nat) (o:Oper) cs b,ops[j]? = some o→o.op≠.select cs b)
  (hQ:∀ c a w,Q (.panic c) (a.put oi.dst v) w→Q (.panic c) a w) :
  ∀ (fuel:Nat) (listed:Array Bool) (a:Act) (w:World),
   (∀ j oj,ops[j]? = some oj→j≠i→listed.getD j true=false→(∀ e∈oj.after,Region.binds md e=true→e.on≠i)→oi.apart ops oj=true) →
   i∈Region.ready md ops listed→YieldsV P V ops oi v a w →
   wpAnyV P V md ops Q fuel (listed.setIfInBounds i true) (a.put oi.dst v) w→wpAnyV P V md ops Q (fuel+1) listed a w:=by
 intro fuel
 induction fuel with
 | zero =>
  intro listed a w _ hr hy H w1 hw1
  refine ⟨λh=>(by rw [h] at hr; cases hr),λj hj=>?_⟩
  by_cases hji:j=i
  ·subst hji; exact (hy.grow hw1).wpOp hi (λw' h'=>⟨h',wpAnyV_grow _ _ _ _ _ (hw1.trans h') H⟩)
  ·have:=ready_mono hj hji
   rw [H.1] at this
   cases this
 | succ fuel ih =>
  intro listed a w hfree hr hy H w1 hw1
  refine ⟨λh=>(by rw [h] at hr; cases hr),λj hj=>?_⟩
  by_cases hji:j=i
  ·subst hji; exact (hy.grow hw1).wpOp hi (λw' h'=>⟨h',wpAnyV_grow _ _ _ _ _ (hw1.trans h') H⟩)
  ·have h1:=(H w1 hw1).2 j (ready_mono hj hji)
   obtain ⟨hjun,oj,hoj,hall⟩:=mem_ready.1 hj
   have hnot:∀ e∈oj.after,Region.binds md e=true→e.on≠i:=λe he hb heq=>by
    have h1:=hall e he hb
    have h0:=(mem_ready.1 hr).1
    rw [heq] at h1
    rcases Nat.lt_or_ge i listed.size with h' | h'
    ·simp [h'] at h0 h1; rw [h0] at h1; cases h1
    ·simp [Array.getElem?_eq_none h'] at h1
   have h2:=wpOp_putV hoj (hfree j oj hoj hji hjun hnot) (λcs b=>hsel i oi cs b hi) (λcs b=>hsel j oj cs b hoj) hQ hy h1
   have hfree':∀ k ok,ops[k]? = some ok→k≠i→(listed.setIfInBounds j true).getD k true=false →
     (∀ e∈ok.after,Region.binds md e=true→e.on≠i)→oi.apart ops ok=true:=λk ok hk hki hun hno=>by
    refine hfree k ok hk hki ?_ hno
    by_cases hjk:j=k
    ·subst hjk; exact hjun
    ·rw [getD_set_ne true hjk] at hun; exact hun
   refine wpOp_mono (λa' w' h3=>⟨h3.2.1,ih (listed.setIfInBounds j true) a' w' hfree' (ready_mono hr (Ne.symm hji)) (h3.1.grow (hw1.trans h3.2.1)) ?_⟩) h2
   rw [Array.setIfInBounds_comm _ _ hji]
   exact h3.2.2
theorem wpAnyV_take (i:Nat) {oi:Oper} {v:Value} {fuel:Nat} {listed:Array Bool} {a:Act} {w:World} (hi0:ops.toList[i]? = some oi) (hc:canTakeA md ops listed i=true)
  (hQ:∀ c a w,Q (.panic c) (a.put oi.dst v) w→Q (.panic c) a w) (hy:YieldsV P V ops oi v a w)
  (h:wpAnyV P V md ops Q fuel (listed.setIfInBounds i true) (a.put oi.dst v) w):wpAnyV P V md ops Q (fuel+1) listed a w:=by
 have hi:ops[i]? = some oi:=by simpa using hi0
 unfold canTakeA at hc
 simp only [Bool.and_eq_true] at hc
 exact wpAnyV_first hi (Region.noSelect_spec hc.1.1) hQ fuel listed a w (Region.free_spec hi hc.1.2) (by simpa using hc.2) hy h
theorem wpAnyV_sole (i:Nat) {oi:Oper} {fuel:Nat} {listed:Array Bool} {a:Act} {w:World} (hi0:ops.toList[i]? = some oi) (hr:Region.ready md ops listed=[i])
  (hw:Region.wanted oi (yielded ops a.tmps)=true)
  (h:∀ w1,GrV V w w1→∀ K:Act→World→Prop,(∀ a' w',GrV V w1 w'→wpAnyV P V md ops Q fuel (listed.setIfInBounds i true) a' w'→K a' w')→Oper.wp P oi a w1 K Q) :
  wpAnyV P V md ops Q (fuel+1) listed a w:=λw1 hw1 =>
 ⟨λh0=>(by rw [hr] at h0; cases h0),λj hj=>by
  rw [hr] at hj
  obtain rfl:j=i:=by simpa using hj
  have hi:ops[j]? = some oi:=by simpa using hi0
  refine wpOp_step hi (λK' hK=>?_)
  rw [if_pos hw]
  exact h w1 hw1 K' (λa' w' h1 h2=>hK a' w' ⟨h1,h2⟩)⟩
theorem wpAnyV_done {fuel:Nat} {listed:Array Bool} {a:Act} {w:World} (hr:Region.ready md ops listed=[]) (h:∀ w1,GrV V w w1→Q .normal a w1):wpAnyV P V md ops Q fuel listed a w:=by
 cases fuel with
 | zero=>exact ⟨hr,h⟩
 | succ n=>exact λw1 hw1=>⟨λ_=>h w1 hw1,λi hi=>by rw [hr] at hi; cases hi⟩
theorem wp_region_V (V:List (Nat×Obj)) {id:Nat} {a:Act} {w:World} (hm:P.follows .mixedOrders=true) (h:wpAnyV P V .any ops Q ops.size (Array.replicate ops.size false) a w):(Code.region id ops true).wp P Q a w :=
 wp_region_any hm (wpAny_of_V _ _ _ _ (wpAnyV_grow _ _ _ w _ (GrV.of_gr ((Below.refl _ _).drew)) h))
theorem YieldsV.pure {o:Oper} {v:Value} {a:Act} {w:World} (hw:Region.wanted o (yielded ops a.tmps)=true) (h:∀ w1,GrV V w w1→(execOp a.eval o).run P w1=.ok (.value v) w1):YieldsV P V ops o v a w :=
 .inl ⟨hw,λw1 h1=>by unfold GivesV; rw [h w1 h1]; exact ⟨rfl,GrV.refl _⟩⟩
theorem wpAnyV_store (i:Nat) {oi:Oper} {fuel:Nat} {listed:Array Bool} {a:Act} {w:World} (hi0:ops.toList[i]? = some oi) (hr:Region.ready md ops listed=[i])
  (hw:Region.wanted oi (yielded ops a.tmps)=true) (ty:TypeId) (x y:Operand) (ho:oi.op=.store ty x y) (g:Nat) (cells:Array Value) (hx:a.eval x=.pointer (some ⟨g,0,none⟩)) (hy:a.eval y=.agg cells)
  (t:TypeId) (hm:(g,.cells cells t)∈V) (hg:∀ w1,GrV V w w1→∃ c:Array Value,Blk w1 g t c∧c.size=cells.size) (hi:(P.info? ty).map (·.size)=some cells.size) (h1:cells.all (·.oneCell')=true)
  (h:∀ w1,GrV V w w1→∀ w2,GrV V w1 w2→Blk w2 g t cells→wpAnyV P V md ops Q fuel (listed.setIfInBounds i true) (a.put oi.dst undef) w2) :
  wpAnyV P V md ops Q (fuel+1) listed a w :=
 wpAnyV_sole i hi0 hr hw (λw1 hw1 K hK=>by
  obtain ⟨c,hb,hc⟩:=hg w1 hw1
  exact wp_store_row ty x y ho g cells hx hy t c hb hi hc h1 (hK _ _ (GrV.setRow hb hm) (h w1 hw1 _ (GrV.setRow hb hm) (hb.setRow cells))))
end
end
end
section
section
open Go.RowKit
section
variable {P:Program} {ops:Array Oper} {Q:Exit→Act→World→Prop} {md:Region.Mode} {ex:Nat→Bool}
theorem wpAnyG_firstB {i:Nat} {oi:Oper} {v:Value} (bs:Nat→Bool) (hi:ops[i]? = some oi) (hsel:∀ (j:Nat) (o:Oper) cs b,ops[j]? = some o→o.op≠.select cs b)
  (hQ:∀ c a w,Q (.panic c) (a.put oi.dst v) w→Q (.panic c) a w) (hex:∀ k ok,ops[k]? = some ok→ex k=true→bs k=true)
  (hbs:∀ k ok,ops[k]? = some ok→bs k=true→∃ e∈ok.after,Region.binds md e=true∧(e.on=i∨bs e.on=true)) :
  ∀ (fuel:Nat) (listed:Array Bool) (a:Act) (w:World),(∀ k,bs k=true→listed.getD k true=false) →
   (∀ j oj,ops[j]? = some oj→j≠i→listed.getD j true=false→bs j=false→oi.apart ops oj=true) →
   i∈Region.ready md ops listed→YieldsG P ops oi v a w →
   wpAnyG P md ops Q ex fuel (listed.setIfInBounds i true) (a.put oi.dst v) w→wpAnyG P md ops Q ex (fuel+1) listed a w:=by
 intro fuel
 induction fuel with
 | zero =>
  intro listed a w _ _ hr hy H w1 hw1
  refine ⟨λh=>(by rw [h] at hr; cases hr),λj hj=>?_⟩
  by_cases hji:j=i
  ·subst hji; exact (hy.grow hw1).wpOp hi (λw' h'=>⟨λ_=>h',wpAnyG_grow _ _ _ _ _ (hw1.trans h') H⟩)
  ·have:=ready_mono hj hji
   rw [H.1] at this
   cases this
 | succ fuel ih =>
  intro listed a w hl hfree hr hy H w1 hw1
  refine ⟨λh=>(by rw [h] at hr; cases hr),λj hj=>?_⟩
  by_cases hji:j=i
  ·subst hji; exact (hy.grow hw1).wpOp hi (λw' h'=>⟨λ_=>h',wpAnyG_grow _ _ _ _ _ (hw1.trans h') H⟩)
  ·have h1:=(H w1 hw1).2 j (ready_mono hj hji)
   obtain ⟨hjun,oj,hoj,hall⟩:=mem_ready.1 hj
   have hun:∀ k,listed.getD k true=false→listed.getD k false=true→False:=λk h0 h1=>by
    rcases Nat.lt_or_ge k listed.size with h' | h'
    ·simp [h'] at h0 h1; rw [h0] at h1; cases h1
    ·simp [Array.getElem?_eq_none h'] at h1
   have hbj:bs j=false:=by
    cases hb:bs j with
    | false=>rfl
    | true =>
     obtain ⟨e,he,hbd,ho⟩:=hbs j oj hoj hb
     have h2:=hall e he hbd
     rcases ho with ho | ho
     ·rw [ho] at h2; exact (hun i (mem_ready.1 hr).1 h2).elim
     ·exact (hun e.on (hl e.on ho) h2).elim
   have hexj:ex j=false:=by
    cases hxj:ex j with
    | false=>rfl
    | true=>rw [hex j oj hoj hxj] at hbj; cases hbj
   have h2:=wpOp_putG hoj (hfree j oj hoj hji hjun hbj) (λcs b=>hsel i oi cs b hi) (λcs b=>hsel j oj cs b hoj) hQ hy h1
   have hl':∀ k,bs k=true→(listed.setIfInBounds j true).getD k true=false:=λk hk=>by
    have hjk:j≠k:=λe=>by rw [← e,hbj] at hk; cases hk
    rw [getD_set_ne true hjk]; exact hl k hk
   have hfree':∀ k ok,ops[k]? = some ok→k≠i→(listed.setIfInBounds j true).getD k true=false→bs k=false→oi.apart ops ok=true:=λk ok hk hki hun hno=>by
    refine hfree k ok hk hki ?_ hno
    by_cases hjk:j=k
    ·subst hjk; exact hjun
    ·rw [getD_set_ne true hjk] at hun; exact hun
   refine wpOp_mono (λa' w' h3=>⟨h3.2.1,ih (listed.setIfInBounds j true) a' w' hl' hfree' (ready_mono hr (Ne.symm hji)) (h3.1.grow (hw1.trans (h3.2.1 hexj))) ?_⟩) h2
   rw [Array.setIfInBounds_comm _ _ hji]
   exact h3.2.2
def canTakeB (md:Region.Mode) (ops:Array Oper) (listed:Array Bool) (ex:Nat→Bool) (i:Nat) (bs:List Nat):Bool :=
 Region.noSelect ops && (Region.ready md ops listed).contains i && (bs.all λk=>!(listed.getD k true)) &&
 (match ops[i]? with
  | none=>false
  | some oi=>(List.range ops.size).all λk=>match ops[k]? with
   | none=>true
   | some ok=>(!(bs.contains k) || ok.after.any λe=>Region.binds md e && (e.on == i || bs.contains e.on)) && (!(ex k) || bs.contains k) && (k == i || listed.getD k true || bs.contains k || oi.apart ops ok))
theorem wpAnyG_takeB (i:Nat) (bs:List Nat) {oi:Oper} {v:Value} {fuel:Nat} {listed:Array Bool} {a:Act} {w:World} (hi0:ops.toList[i]? = some oi) (hc:canTakeB md ops listed ex i bs=true)
  (hQ:∀ c a w,Q (.panic c) (a.put oi.dst v) w→Q (.panic c) a w) (hy:YieldsG P ops oi v a w)
  (h:wpAnyG P md ops Q ex fuel (listed.setIfInBounds i true) (a.put oi.dst v) w):wpAnyG P md ops Q ex (fuel+1) listed a w:=by
 have hi:ops[i]? = some oi:=by simpa using hi0
 unfold canTakeB at hc
 simp only [hi,Bool.and_eq_true] at hc
 obtain ⟨⟨⟨h1,h2⟩,h3⟩,h4⟩:=hc
 rw [List.all_eq_true] at h3 h4
 have h5:∀ k ok,ops[k]? = some ok→_:=λk ok hk=>by
  have h:=h4 k (List.mem_range.2 (Array.getElem?_eq_some_iff.1 hk).1)
  simp only [hk,Bool.and_eq_true] at h
  exact h
 refine wpAnyG_firstB (λk=>bs.contains k) hi (Region.noSelect_spec h1) hQ (λk ok hk he=>?_) (λk ok hk hb=>?_) fuel listed a w (λk hk=>?_) (λj oj hj hji hun hb=>?_) (by simpa using h2) hy h
 ·have h:=(h5 k ok hk).1.2
  simpa [he] using h
 ·have h:=(h5 k ok hk).1.1
  simp only [hb,Bool.not_true,Bool.false_or] at h
  rw [Array.any_eq_true'] at h
  obtain ⟨e,hm,hx⟩:=h
  simp only [Bool.and_eq_true,Bool.or_eq_true,beq_iff_eq] at hx
  exact ⟨e,hm,hx.1,hx.2⟩
 ·have h:=h3 k (by simpa using hk)
  simpa using h
 ·have h:=(h5 j oj hj).2
  simp only [hun,hb,Bool.or_false,Bool.or_eq_true,beq_iff_eq] at h
  exact h.resolve_left hji
end
end
end
section
namespace Sy
open Go.RowKit
section
variable {P:Program} {ops:Array Oper} {Q:Exit→Act→World→Prop} {md:Region.Mode} {l n:Nat}
theorem rowsIn_of {row:String} {args:Array Value} {w:World} {R:Value→World→Prop} (h:Rows P row args w R):RowsIn (Fence.wide.inRound l) n P row args w R :=
 λc cs _=>let ⟨v,w',r,s⟩:=h c cs; ⟨v,w',r,stepsIn_wide.2 s⟩
theorem callsIn_of {f:FuncId} {args:Array Value} {w:World} {R:Ending→World→Prop} (h:Calls P f args w R):CallsIn (Fence.wide.inRound l) n P f args w R:=CallsIn.inRound l (callsIn_wide.2 h)
theorem operIn_of {o:Oper} {a:Act} {w:World} {K:Act→World→Prop} (hd:∀ c,o.op≠.defer c) (h:o.wp P a w K Q):o.wpIn (Fence.wide.inRound l) n P a w K Q:=by
 unfold Oper.wpIn
 refine ⟨λ_ _=>trivial,?_⟩
 rw [Oper.semAt_eq _ _ _ hd]
 unfold Oper.wp at h
 generalize (execOp a.eval o).run P w=r at *
 cases r with
 | ok x w' =>
  cases x <;> simp only [Oper.upon,Oper.uponIn] at h ⊢ <;> first
   | exact h
   | exact ⟨λe=>by simp [Fence.wide] at e,callsIn_of h⟩
   | exact ⟨λe=>by simp [Fence.wide] at e,rowsIn_of h⟩
   | exact h.elim
 | halt x w'=>cases x <;> simp only [Oper.upon,Oper.uponIn] at h ⊢ <;> exact h
def noDefer (ops:Array Oper):Bool:=ops.all λo=>match o.op with | .defer _=>false | _=>true
theorem noDefer_spec (h:noDefer ops=true) {i:Nat} {o:Oper} (hi:ops[i]? = some o):∀ c,o.op≠.defer c:=λc e=>by
 unfold noDefer at h
 rw [Array.all_eq_true'] at h
 have:=h o (Array.mem_of_getElem? hi)
 rw [e] at this
 cases this
theorem wpOpIn_of (hq:¬ LetsOut Q) (hd:noDefer ops=true) {i:Nat} {K:Act→World→Prop} {a:Act} {w:World} (h:wpOp P ops Q i K a w):wpOpIn (Fence.wide.inRound l) n P ops Q i K a w:=by
 unfold wpOp at h
 unfold wpOpIn
 cases hi:ops[i]? with
 | none=>simpa [hi] using h
 | some o =>
  simp only [hi] at h ⊢
  split
  ·rename_i hw
   simp only [hw,if_true] at h
   rcases h with h | h
   ·exact operIn_of (noDefer_spec hd hi) h
   ·exact absurd h.2 hq
  ·rename_i hw
   simp only [hw] at h
   exact ⟨λ_ _=>trivial,h⟩
theorem wpAnyIn_of (hq:¬ LetsOut Q) (hd:noDefer ops=true):∀ (fuel:Nat) (listed:Array Bool) (a:Act) (w:World),wpAny P md ops Q fuel listed a w→wpAnyIn (Fence.wide.inRound l) n P md ops Q fuel listed a w
 | 0,_,_,_,h=>h
 | fuel+1,_,_,_,h=>⟨h.1,λi hi=>wpOpIn_mono (λa w h'=>wpAnyIn_of hq hd fuel _ a w h') (wpOpIn_of hq hd (h.2 i hi))⟩
theorem round_region_G (ex:Nat→Bool) {id:Nat} {a:Act} {w:World} (hm:P.follows .mixedOrders=true) (hq:¬ LetsOut Q) (hd:noDefer ops=true) (h:wpAnyG P .any ops Q ex ops.size (Array.replicate ops.size false) a w):(Code.region id ops true).wpIn (Fence.wide.inRound l) n P Q a w :=
 wpIn_region_any hm (wpAnyIn_of hq hd _ _ _ _ (wpAny_of_G _ _ _ _ (wpAnyG_grow _ _ _ w _ ((Below.refl _ _).drew) h)))
theorem listIn_of (hq:¬ LetsOut Q):∀ (rest:List Oper),(∀ o∈rest, ∀ c,o.op≠.defer c)→∀ (a:Act) (w:World),wpList P ops Q rest a w→wpListIn (Fence.wide.inRound l) n P ops Q rest a w
 | [],_,_,_,h=>h
 | o::rest,hd,a,w,h=>by
  unfold wpList at h
  unfold wpListIn
  split
  ·rename_i hw
   simp only [hw,if_true] at h
   rcases h with h | h
   ·exact Oper.wpIn_mono (λa w h'=>listIn_of hq rest (λo ho=>hd o (by simp [ho])) a w h') (operIn_of (hd o (by simp)) h)
   ·exact absurd h.2 hq
  ·rename_i hw
   simp only [hw] at h
   exact ⟨λ_ _=>trivial,listIn_of hq rest (λo ho=>hd o (by simp [ho])) _ _ h⟩
theorem round_region_L {id:Nat} {a:Act} {w:World} (hq:¬ LetsOut Q) (hd:noDefer ops=true) (h:wpList P ops Q ops.toList a w):(Code.region id ops false).wpIn (Fence.wide.inRound l) n P Q a w :=
 wpIn_region_list (listIn_of hq _ (λo ho=>by
  obtain ⟨i,hi⟩:=List.mem_iff_getElem?.1 ho
  exact noDefer_spec hd (by simpa using hi)) _ _ h)
end
end Sy
end
section
namespace Sy
open Go.RowKit
abbrev Slots:=List (Nat×Value)
abbrev Blocks:=List (Nat×TypeId×Array Value)
structure Base where
 world:World
 fz:World
 ds:List Deferred
 fence:Fence
 room:Nat
abbrev Base.of (w:World):Base:=⟨w,w,[],Fence.wide,9⟩
def Fr (ds:List Deferred) (a:Act) (n:Nat) (F:Slots):Prop:=a.defers=ds∧a.tmps.size=n∧∀ i v,F.lookup i=some v→a.tmps[i]? = some v
def evF (F:Slots):Operand→Value
 | .tmp t=>(F.lookup t).getD undef
 | .const v=>v
 | .global g=>.pointer (some ⟨g,0,none⟩)
 | .func f=>.func (.func f) #[] #[]
def inF (F:Slots):Operand→Bool
 | .tmp t=>(F.lookup t).isSome
 | _=>true
def putF (F:Slots):Option Tmp→Value→Slots
 | none,_=>F
 | some d,v=>(d,v)::F
def fits (n:Nat):Option Tmp→Bool
 | none=>true
 | some d=>decide (d<n)
theorem Fr.eval {ds:List Deferred} {a:Act} {n:Nat} {F:Slots} (h:Fr ds a n F) {x:Operand} (hx:inF F x=true):a.eval x=evF F x:=by
 cases x with
 | tmp t =>
  obtain ⟨v,hv⟩:=Option.isSome_iff_exists.1 hx
  have:=h.2.2 t v hv
  show a.tmps.getD t undef=(F.lookup t).getD undef
  rw [hv]
  simp [Array.getD_eq_getD_getElem?,this]
 | const v=>rfl
 | global g=>rfl
 | func f=>rfl
theorem Fr.put {ds:List Deferred} {a:Act} {n:Nat} {F:Slots} (h:Fr ds a n F) {d:Option Tmp} (hd:fits n d=true) (v:Value):Fr ds (a.put d v) n (putF F d v):=by
 cases d with
 | none=>exact h
 | some d =>
  have hd':d<n:=of_decide_eq_true hd
  refine ⟨h.1,by simp [Act.put,h.2.1],λi u hi=>?_⟩
  simp only [putF,List.lookup_cons] at hi
  simp only [Act.put]
  by_cases e:i=d
  ·subst e
   simp at hi
   subst hi
   rw [Array.getElem?_setIfInBounds_self_of_lt (by rw [h.2.1]; exact hd')]
  ·have e':(i == d)=false:=by simpa using e
   rw [e'] at hi
   rw [Array.getElem?_setIfInBounds_ne (Ne.symm e)]
   exact h.2.2 i u hi
theorem Fr.less {ds:List Deferred} {a:Act} {n:Nat} {F G:Slots} (h:Fr ds a n F) (hG:∀ i v,G.lookup i=some v→F.lookup i=some v):Fr ds a n G:=⟨h.1,h.2.1,λi v hi=>h.2.2 i v (hG i v hi)⟩
structure St (w0:Base) (w:World) (L:Blocks):Prop where
 below:Below w0.world.heap.size w0.world w
 blk:∀ g t cs,(g,t,cs)∈L→w0.world.heap.size≤g∧Blk w g t cs
 apart:(L.map (·.1)).Nodup
 size:w0.fz.heap.size≤w.heap.size
 non:∀ (k:Nat) (o:Obj),w0.world.heap.size≤k→w0.fz.heap[k]? = some o→o.isCells=false→w.heap[k]? = some o
theorem St.start (w:World):St (Base.of w) w []:=⟨Below.refl _ _,(λ_ _ _ h=>by cases h),List.Pairwise.nil,Nat.le_refl _,λ_ _ _ h _=>h⟩
theorem St.gr {w0:Base} {w w':World} {L:Blocks} (h:St w0 w L) (hg:Gr w w'):St w0 w' L :=
 ⟨Below.gr h.below hg,λg t cs hm=>⟨(h.blk g t cs hm).1,hg.blk (h.blk g t cs hm).2⟩,h.apart,Nat.le_trans h.size hg.size,λk o hk ho hc=>by
  have h1:=h.non k o hk ho hc
  exact (hg.block k (Array.getElem?_eq_some_iff.1 h1).1).trans h1⟩
theorem St.get {w0:Base} {w:World} {L:Blocks} (h:St w0 w L) {i g:Nat} {t:TypeId} {cs:Array Value} (hi:L[i]? = some (g,t,cs)):Blk w g t cs:=(h.blk g t cs (List.mem_of_getElem? hi)).2
theorem St.add {w0:Base} {w w':World} {L:Blocks} (h:St w0 w L) (hg:Gr w w') {g:Nat} {t:TypeId} {cs:Array Value} (hn:w.heap.size≤g) (hb:Blk w' g t cs):St w0 w' (L++[(g,t,cs)]):=by
 have h':=h.gr hg
 refine ⟨h'.below,λg' t' cs' hm=>?_,?_,h'.size,h'.non⟩
 ·rcases List.mem_append.1 hm with hm | hm
  ·exact h'.blk g' t' cs' hm
  ·obtain ⟨rfl,rfl,rfl⟩:g'=g∧t'=t∧cs'=cs:=by simpa using hm
   exact ⟨Nat.le_trans h.below.size hn,hb⟩
 ·rw [List.map_append,List.nodup_append]
  refine ⟨h.apart,by simp,λx hx y hy e=>?_⟩
  obtain ⟨⟨g',t',cs'⟩,hm,rfl⟩:=List.mem_map.1 hx
  have hlt:=(h.blk g' t' cs' hm).2.lt
  have:y=g:=by simpa using hy
  omega
theorem St.set {w0:Base} {w w':World} {L:Blocks} (h:St w0 w L) {i g:Nat} {t:TypeId} {cs cs':Array Value} (hi:L[i]? = some (g,t,cs)) (hg:w.grownBy w' (some g)) (hn:Blk w' g t cs'):St w0 w' (L.set i (g,t,cs')):=by
 have hil:=(List.getElem?_eq_some_iff.1 hi).1
 have hie:=(List.getElem?_eq_some_iff.1 hi).2
 have hbk:=h.blk g t cs (List.mem_of_getElem? hi)
 refine ⟨h.below.trans (below_of_only hg h.below.size hbk.1),λg1 t1 c1 hm=>?_,?_,Nat.le_trans h.size hg.size,λk o hk ho hc=>?_⟩
 ·obtain ⟨j,hj⟩:=List.getElem?_of_mem hm
  rw [List.getElem?_set] at hj
  by_cases e:i=j
  ·subst e
   rw [if_pos rfl,if_pos hil] at hj
   obtain ⟨rfl,rfl,rfl⟩:g=g1∧t=t1∧cs'=c1:=by simpa using hj
   exact ⟨hbk.1,hn⟩
  ·rw [if_neg e] at hj
   have hm1:=h.blk g1 t1 c1 (List.mem_of_getElem? hj)
   refine ⟨hm1.1,hm1.2.grown hg (λeg=>e ?_)⟩
   obtain rfl:g1=g:=by injection eg
   have hjl:=(List.getElem?_eq_some_iff.1 hj).1
   have hje:=(List.getElem?_eq_some_iff.1 hj).2
   have hp:=List.pairwise_iff_getElem.1 h.apart
   rcases Nat.lt_trichotomy i j with hlt | he | hlt
   ·exact (hp i j (by simpa using hil) (by simpa using hjl) hlt (by simp [hie,hje])).elim
   ·exact he
   ·exact (hp j i (by simpa using hjl) (by simpa using hil) hlt (by simp [hie,hje])).elim
 ·rw [List.map_set]
  have:(L.map (·.1)).set i g=L.map (·.1):=by
   apply List.ext_getElem?
   intro j
   rw [List.getElem?_set]
   by_cases e:i=j
   ·subst e
    rw [if_pos rfl,if_pos (by simpa using hil)]
    simp [hi]
   ·rw [if_neg e]
  show ((L.map (·.1)).set i g).Nodup
  rw [this]
  exact h.apart
 ·have h1:=h.non k o hk ho hc
  refine (hg.block k (Array.getElem?_eq_some_iff.1 h1).1 (λe=>?_)).trans h1
  obtain rfl:k=g:=by injection e
  have h2:=hbk.2
  unfold Blk at h2
  rw [h2] at h1
  cases h1
  cases hc
theorem St.less {w0:Base} {w:World} {L M:Blocks} (h:St w0 w L) (hs:M.Sublist L):St w0 w M :=
 ⟨h.below,λg t cs hm=>h.blk g t cs (hs.subset hm),h.apart.sublist (hs.map _),h.size,h.non⟩
def wantedF (ops:Array Oper) (F:Slots) (o:Oper):Option Bool :=
 match o.guard with
 | none=>some true
 | some (j,want)=>match (ops[j]?).bind (·.dst) with
  | none=>some false
  | some t=>match F.lookup t with
   | some (.bool b)=>some (b == want)
   | some _=>some false
   | none=>none
theorem Fr.wanted {ds:List Deferred} {a:Act} {n:Nat} {F:Slots} (h:Fr ds a n F) {ops:Array Oper} {o:Oper} {b:Bool} (hw:wantedF ops F o=some b):Region.wanted o (yielded ops a.tmps)=b:=by
 unfold wantedF at hw
 unfold Region.wanted
 cases hg:o.guard with
 | none=>rw [hg] at hw; simpa using hw
 | some jw =>
  obtain ⟨j,want⟩:=jw
  rw [hg] at hw
  simp only at hw ⊢
  cases hd:(ops[j]?).bind (·.dst) with
  | none =>
   rw [hd] at hw
   simp only [yielded,hd,Option.bind_none] at hw ⊢
   simpa using hw
  | some t =>
   rw [hd] at hw
   simp only at hw
   cases hl:F.lookup t with
   | none=>rw [hl] at hw; cases hw
   | some v =>
    have hv:=h.2.2 t v hl
    rw [hl] at hw
    simp only [yielded,hd,Option.bind_some,hv]
    cases v <;> simp at hw ⊢ <;> exact hw
def good (ops:Array Oper) (n:Nat) (F:Slots) (o:Oper):Bool :=
 (wantedF ops F o == some true) && o.op.operands.all (inF F) && fits n o.dst && (match o.op with | .select ..=>false | _=>true)
theorem good_spec {ops:Array Oper} {n:Nat} {F:Slots} {o:Oper} (h:good ops n F o=true):wantedF ops F o=some true∧(∀ x∈o.op.operands,inF F x=true)∧fits n o.dst=true∧∀ cs b,o.op≠.select cs b:=by
 unfold good at h
 simp only [Bool.and_eq_true,beq_iff_eq] at h
 obtain ⟨⟨⟨h1,h2⟩,h3⟩,h4⟩:=h
 refine ⟨h1,Array.all_eq_true_iff_forall_mem.1 h2,h3,λcs b e=>?_⟩
 rw [e] at h4
 cases h4
theorem good_exec {ops:Array Oper} {n:Nat} {F:Slots} {o:Oper} (h:good ops n F o=true) {ds:List Deferred} {a:Act} (ha:Fr ds a n F):execOp a.eval o=execOp (evF F) o :=
 execOp_congr o (good_spec h).2.2.2 λx hx=>ha.eval ((good_spec h).2.1 x (by simpa using hx))
def Quiet (P:Program) (w0:Base) (F:Slots) (L:Blocks) (o:Oper) (v:Value):Prop:=∀ w,St w0 w L→Gives P (execOp (evF F) o) v w
theorem Quiet.pure {P:Program} {w0:Base} {F:Slots} {L:Blocks} {o:Oper} {v:Value} (h:∀ w,(execOp (evF F) o).run P w=.ok (.value v) w):Quiet P w0 F L o v:=λw _=>by
 unfold Gives; rw [h w]; exact ⟨rfl,Gr.refl _⟩
theorem Quiet.call {P:Program} {w0:Base} {F:Slots} {L:Blocks} {o:Oper} {v:Value} (f:FuncId) (args:Array Value) (he:∀ w,(execOp (evF F) o).run P w=.ok (.enter f args) w)
  (h:∀ w,Calls P f args w λe w'=>e=.returned v∧Below w.heap.size w w'):Quiet P w0 F L o v:=λw _=>by
 unfold Gives; rw [he w]; exact h w
theorem Quiet.load {P:Program} {w0:Base} {F:Slots} {L:Blocks} {o:Oper} (i g f k:Nat) (t ty:TypeId) (cs:Array Value) (d:TypeDesc) (x:Operand) (ho:o.op=.load ty x) (hx:evF F x=.pointer (some ⟨g,f,none⟩))
  (hL:L[i]? = some (g,t,cs)) (hu:P.underlying ty=some d) (hd:d.isRow=true) (hi:(P.info? ty).map (·.size)=some k) (v:Value) (hv:Value.agg ((cs.toList.drop f).take k).toArray=v) (hk:f+k≤cs.size):Quiet P w0 F L o v:=λw hw=>by
 have hb:=hw.get hL
 have hl:=run_loadVar_mid (P:=P) w g f ty ((cs.toList.drop f).take k) d (λj u hj=>by
  rw [hb.cell]
  have hlt:j<k:=by
   have:=(List.getElem?_eq_some_iff.1 hj).1
   simp at this; omega
  rw [List.getElem?_take_of_lt hlt,List.getElem?_drop] at hj
  simpa using hj) hu hd (by rw [hi]; simp; omega)
 unfold Gives execOp
 simp only [ho,hx,Instr.loadAt,Instr.sureAddr,Sem.run_bind,Sem.run_pure,Result.andThen_ok,hl]
 exact ⟨hv,Gr.refl _⟩
theorem Quiet.cell {P:Program} {w0:Base} {F:Slots} {L:Blocks} {o:Oper} (i g f:Nat) (t ty:TypeId) (cs:Array Value) (d:TypeDesc) (x:Operand) (ho:o.op=.load ty x) (hx:evF F x=.pointer (some ⟨g,f,none⟩))
  (hL:L[i]? = some (g,t,cs)) (hu:P.underlying ty=some d) (hd:d.isRow=false) (v:Value) (hv:cs[f]? = some v):Quiet P w0 F L o v:=λw hw=>by
 have hb:=hw.get hL
 have hc:w.cell? ⟨g,f,none⟩=some v:=(hb.cell f).trans hv
 have ha:(isAgg ty).run P w=.ok false w:=by
  cases d <;> first | (cases hd; done) | simp [isAgg,underlying,hu]
 unfold Gives execOp
 simp only [ho,hx,Instr.loadAt,Instr.sureAddr,Sem.run_bind,Sem.run_pure,Result.andThen_ok,loadVar,ha,Bool.false_eq_true,if_false,run_load,hc]
 exact ⟨trivial,Gr.refl _⟩
section
variable {P:Program} {w0:Base} {n:Nat}
def wpC (P:Program) (w0:Base) (n:Nat) (Q:Exit→Act→World→Prop) (F:Slots) (L:Blocks) (c:Code):Prop:=∀ a w,Fr w0.ds a n F→St w0 w L→c.wpIn w0.fence w0.room P Q a w
def wpS (P:Program) (w0:Base) (n:Nat) (ops:Array Oper) (Q:Exit→Act→World→Prop) (F:Slots) (L:Blocks) (l:List Oper):Prop:=∀ a w,Fr w0.ds a n F→St w0 w L→wpList P ops Q l a w
def wpD (P:Program) (w0:Base) (n:Nat) (ops:Array Oper) (Q:Exit→Act→World→Prop) (ex:Nat→Bool) (F:Slots) (L:Blocks) (fuel:Nat) (listed:Array Bool):Prop:=∀ a w,Fr w0.ds a n F→St w0 w L→wpAnyG P .any ops Q ex fuel listed a w
def X (w0:Base) (n:Nat) (Q:Exit→Act→World→Prop) (F:Slots) (L:Blocks) (e:Exit):Prop:=∀ a w,Fr w0.ds a n F→St w0 w L→Q e a w
variable {Q:Exit→Act→World→Prop} {F:Slots} {L:Blocks}
theorem seq {x y:Code} (h:wpC P w0 n (Exit.then (y.wpIn w0.fence w0.room P Q) Q) F L x):wpC P w0 n Q F L (.seq x y):=λa w ha hw=>wpIn_seq (h a w ha hw)
theorem then_ {y:Code} (h:wpC P w0 n Q F L y):X w0 n (Exit.then (y.wpIn w0.fence w0.room P Q) Q) F L .normal:=h
theorem then_ret {K:Act→World→Prop} (h:X w0 n Q F L .ret):X w0 n (Exit.then K Q) F L .ret:=h
theorem then_exit {K:Act→World→Prop} {i:Nat} (h:X w0 n Q F L (.exit i)):X w0 n (Exit.then K Q) F L (.exit i):=h
theorem block {i:Nat} {c:Code} (h:wpC P w0 n (Exit.inBlock i Q) F L c):wpC P w0 n Q F L (.block i c):=λa w ha hw=>wpIn_block (h a w ha hw)
theorem in_ {i:Nat} (h:X w0 n Q F L .normal):X w0 n (Exit.inBlock i Q) F L .normal:=h
theorem in_ret {i:Nat} (h:X w0 n Q F L .ret):X w0 n (Exit.inBlock i Q) F L .ret:=h
theorem in_exit {i:Nat} (h:X w0 n Q F L .normal):X w0 n (Exit.inBlock i Q) F L (.exit i):=λa w ha hw=>by
 show if i=i then Q .normal a w else Q (.exit i) a w
 rw [if_pos rfl]; exact h a w ha hw
theorem in_pass {i j:Nat} (hne:j≠i) (h:X w0 n Q F L (.exit j)):X w0 n (Exit.inBlock i Q) F L (.exit j):=λa w ha hw=>by
 show if j=i then Q .normal a w else Q (.exit j) a w
 rw [if_neg hne]; exact h a w ha hw
theorem skip (h:X w0 n Q F L .normal):wpC P w0 n Q F L .skip:=λa w ha hw=>wpIn_skip (h a w ha hw)
theorem ret (h:X w0 n Q F L .ret):wpC P w0 n Q F L .ret:=λa w ha hw=>wpIn_ret (h a w ha hw)
theorem exit {i:Nat} (h:X w0 n Q F L (.exit i)):wpC P w0 n Q F L (.exit i):=λa w ha hw=>wpIn_exit (h a w ha hw)
theorem cond_t {c:Operand} {x y:Code} (hi:inF F c=true) (hc:evF F c=.bool true) (h:wpC P w0 n Q F L x):wpC P w0 n Q F L (.cond c x y):=λa w ha hw=>wpIn_cond_true ((ha.eval hi).trans hc) (h a w ha hw)
theorem cond_f {c:Operand} {x y:Code} (hi:inF F c=true) (hc:evF F c=.bool false) (h:wpC P w0 n Q F L y):wpC P w0 n Q F L (.cond c x y):=λa w ha hw=>wpIn_cond_false ((ha.eval hi).trans hc) (h a w ha hw)
variable {ops:Array Oper} {o:Oper} {l:List Oper}
theorem region {i:Nat} (h:wpS P w0 n ops Q F L ops.toList) (hf:w0.fence=Fence.wide:=by rfl):wpC P w0 n Q F L (.region i ops false):=λa w ha hw=>by
 rw [hf]
 exact wpIn_wide.2 (wp_region_list (h a w ha hw))
theorem regionR {i:Nat} (hq:¬ LetsOut Q) (hd:noDefer ops=true) (hf:∃ l,w0.fence=Fence.wide.inRound l) (h:wpS P w0 n ops Q F L ops.toList):wpC P w0 n Q F L (.region i ops false):=λa w ha hw=>by
 obtain ⟨l,hf⟩:=hf
 rw [hf]
 exact round_region_L hq hd (h a w ha hw)
theorem nil (h:X w0 n Q F L .normal):wpS P w0 n ops Q F L []:=λa w ha hw=>wpList_nil (h a w ha hw)
theorem step (hg:good ops n F o=true) (v:Value) (hq:Quiet P w0 F L o v) (h:wpS P w0 n ops Q (putF F o.dst v) L l):wpS P w0 n ops Q F L (o::l):=λa w ha hw=>by
 obtain ⟨g1,_,g3,_⟩:=good_spec hg
 refine wpList_step λK hK=>?_
 rw [if_pos (ha.wanted g1)]
 have h0:=hq w hw
 have he:=good_exec hg ha
 unfold Gives at h0
 unfold Oper.wp
 rw [he]
 generalize (execOp (evF F) o).run P w=r at *
 cases r with
 | ok x w' =>
  cases x <;> simp only [Oper.upon] at h0 ⊢
  case value u=>rw [h0.1]; exact hK _ _ (h _ _ (ha.put g3 v) (hw.gr h0.2))
  case skip=>rw [← h0.1]; exact hK _ _ (h _ _ (ha.put g3 v) (hw.gr h0.2))
  case enter f args =>
   refine Calls.mono h0 λe w'' he=>?_
   rw [he.1]
   exact hK _ _ (h _ _ (ha.put g3 v) (hw.gr he.2))
 | halt x w'=>cases x <;> exact h0.elim
theorem pass (hg:wantedF ops F o=some false) (hd:fits n o.dst=true) (h:wpS P w0 n ops Q (putF F o.dst undef) L l):wpS P w0 n ops Q F L (o::l):=λa w ha hw=>by
 refine wpList_step λK hK=>?_
 rw [if_neg (by rw [ha.wanted hg]; exact Bool.false_ne_true)]
 exact hK _ _ (h _ _ (ha.put hd undef) hw)
def Makes (P:Program) (F:Slots) (o:Oper) (t:TypeId) (cs:Array Value) (val:Nat→Value):Prop:=∀ w,(execOp (evF F) o).run P w=.ok (.value (val w.heap.size)) (w.alloc (.cells cs t))
def ptr (g:Nat):Value:=.pointer (some ⟨g,0,none⟩)
theorem make (hg:good ops n F o=true) (t:TypeId) (cs:Array Value) (val:Nat→Value) (hm:Makes P F o t cs val) (h:∀ g,wpS P w0 n ops Q (putF F o.dst (val g)) (L++[(g,t,cs)]) l):wpS P w0 n ops Q F L (o::l):=λa w ha hw=>by
 obtain ⟨g1,_,g3,_⟩:=good_spec hg
 refine wpList_step λK hK=>?_
 rw [if_pos (ha.wanted g1)]
 unfold Oper.wp
 rw [good_exec hg ha,hm w]
 exact hK _ _ (h w.heap.size _ _ (ha.put g3 _) (hw.add (gr_alloc w _) (Nat.le_refl _) (Blk.new w t cs)))
def Writes (P:Program) (F:Slots) (o:Oper) (g:Nat) (t:TypeId) (cs cs':Array Value):Prop :=
 ∀ w,Blk w g t cs→∃ w',(execOp (evF F) o).run P w=.ok .skip w'∧w.grownBy w' (some g)∧Blk w' g t cs'
theorem Writes.store {F:Slots} {o:Oper} (f:Nat) {g:Nat} {t:TypeId} {cs cs':Array Value} (ty:TypeId) (cells:Array Value) (x y:Operand) (ho:o.op=.store ty x y) (hx:evF F x=.pointer (some ⟨g,f,none⟩)) (hy:evF F y=.agg cells)
  (hi:(P.info? ty).map (·.size)=some cells.size) (hk:f+cells.size≤cs.size) (h1:cells.all (·.oneCell')=true) (hcs:setAll cs f cells.toList=cs'):Writes P F o g t cs cs' :=
 λw hb=>⟨w.setCells g f cells.toList,by
  unfold execOp
  simp only [ho,hx,hy,run_storeAt_mid w g f ty cells (hb.there f cells.size hk) hi h1,Sem.run_bind,Sem.run_pure,Result.andThen_ok],
  only_setCells cells.toList f w (World.grownBy.refl w (some g)),
  hcs ▸ Blk.setCells cells.toList f w cs hb⟩
theorem write (hg:good ops n F o=true) (i g:Nat) (t:TypeId) (cs cs':Array Value) (hL:L[i]? = some (g,t,cs)) (hm:Writes P F o g t cs cs') (h:wpS P w0 n ops Q (putF F o.dst undef) (L.set i (g,t,cs')) l):wpS P w0 n ops Q F L (o::l):=λa w ha hw=>by
 obtain ⟨g1,_,g3,_⟩:=good_spec hg
 obtain ⟨w',h1,h2,h3⟩:=hm w (hw.get hL)
 refine wpList_step λK hK=>?_
 rw [if_pos (ha.wanted g1)]
 unfold Oper.wp
 rw [good_exec hg ha,h1]
 exact hK _ _ (h _ _ (ha.put g3 _) (hw.set hL h2 h3))
variable {ex:Nat→Bool} {fuel:Nat} {listed:Array Bool}
theorem regionD {i:Nat} (ex:Nat→Bool) (hm:P.follows .mixedOrders=true) (h:wpD P w0 n ops Q ex F L ops.size (Array.replicate ops.size false)) (hf:w0.fence=Fence.wide:=by rfl):wpC P w0 n Q F L (.region i ops true):=λa w ha hw=>by
 rw [hf]
 exact wpIn_wide.2 (wp_region_G ex hm (h a w ha hw))
theorem regionRD {i:Nat} (hq:¬ LetsOut Q) (hd:noDefer ops=true) (hf:∃ l,w0.fence=Fence.wide.inRound l) (ex:Nat→Bool) (hm:P.follows .mixedOrders=true) (h:wpD P w0 n ops Q ex F L ops.size (Array.replicate ops.size false)):wpC P w0 n Q F L (.region i ops true):=λa w ha hw=>by
 obtain ⟨l,hf⟩:=hf
 rw [hf]
 exact round_region_G ex hm hq hd (h a w ha hw)
theorem doneD (hr:Region.ready .any ops listed=[]) (h:X w0 n Q F L .normal):wpD P w0 n ops Q ex F L fuel listed:=λa _ ha hw=>wpAnyG_done hr λw1 h1=>h a w1 ha (hw.gr h1)
theorem quiet_yields {o:Oper} {v:Value} {a:Act} {w:World} (hg:good ops n F o=true) (hq:Quiet P w0 F L o v) (ha:Fr w0.ds a n F) (hw:St w0 w L):YieldsG P ops o v a w :=
 .inl ⟨ha.wanted (good_spec hg).1,λw1 h1=>by rw [good_exec hg ha]; exact hq w1 (hw.gr h1)⟩
theorem stepD (i:Nat) {oi:Oper} (hi0:ops.toList[i]? = some oi) (hc:canTake .any ops listed ex i=true) (hQ:∀ c v a w,Q (.panic c) (a.put oi.dst v) w→Q (.panic c) a w)
  (hg:good ops n F oi=true) (v:Value) (hq:Quiet P w0 F L oi v) (h:wpD P w0 n ops Q ex (putF F oi.dst v) L fuel (listed.setIfInBounds i true)):wpD P w0 n ops Q ex F L (fuel+1) listed:=λ_ _ ha hw =>
 wpAnyG_take i hi0 hc (λc=>hQ c v) (quiet_yields hg hq ha hw) (h _ _ (ha.put (good_spec hg).2.2.1 v) hw)
theorem stepDB (i:Nat) (bs:List Nat) {oi:Oper} (hi0:ops.toList[i]? = some oi) (hc:canTakeB .any ops listed ex i bs=true) (hQ:∀ c v a w,Q (.panic c) (a.put oi.dst v) w→Q (.panic c) a w)
  (hg:good ops n F oi=true) (v:Value) (hq:Quiet P w0 F L oi v) (h:wpD P w0 n ops Q ex (putF F oi.dst v) L fuel (listed.setIfInBounds i true)):wpD P w0 n ops Q ex F L (fuel+1) listed:=λ_ _ ha hw =>
 wpAnyG_takeB i bs hi0 hc (λc=>hQ c v) (quiet_yields hg hq ha hw) (h _ _ (ha.put (good_spec hg).2.2.1 v) hw)
theorem stepDA (i:Nat) {oi:Oper} (hi0:ops.toList[i]? = some oi) (hc:canTakeA .any ops listed i=true) (hQ:∀ c v a w,Q (.panic c) (a.put oi.dst v) w→Q (.panic c) a w)
  (hg:good ops n F oi=true) (v:Value) (hq:∀ w,(execOp (evF F) oi).run P w=.ok (.value v) w) (h:wpD P w0 n ops Q ex (putF F oi.dst v) L fuel (listed.setIfInBounds i true)):wpD P w0 n ops Q ex F L (fuel+1) listed:=λa w ha hw =>
 wpAnyG_takeA i hi0 hc (λc=>hQ c v) (λw'=>.inl ⟨ha.wanted (good_spec hg).1,λw1 _=>by rw [good_exec hg ha]; unfold Gives; rw [hq w1]; exact ⟨rfl,Gr.refl _⟩⟩) (h _ _ (ha.put (good_spec hg).2.2.1 v) hw)
theorem passD (i:Nat) {oi:Oper} (hi0:ops.toList[i]? = some oi) (hc:canTake .any ops listed ex i=true) (hQ:∀ c v a w,Q (.panic c) (a.put oi.dst v) w→Q (.panic c) a w)
  (hg:wantedF ops F oi=some false) (hd:fits n oi.dst=true) (h:wpD P w0 n ops Q ex (putF F oi.dst undef) L fuel (listed.setIfInBounds i true)):wpD P w0 n ops Q ex F L (fuel+1) listed:=λ_ _ ha hw =>
 wpAnyG_take i hi0 hc (λc=>hQ c undef) (YieldsG.skip (ha.wanted hg)) (h _ _ (ha.put hd undef) hw)
theorem makeD (i:Nat) {oi:Oper} (hi0:ops.toList[i]? = some oi) (hr:Region.ready .any ops listed=[i]) (hg:good ops n F oi=true) (t:TypeId) (cs:Array Value) (val:Nat→Value) (hm:Makes P F oi t cs val)
  (h:∀ g,wpD P w0 n ops Q ex (putF F oi.dst (val g)) (L++[(g,t,cs)]) fuel (listed.setIfInBounds i true)):wpD P w0 n ops Q ex F L (fuel+1) listed:=λa w ha hw =>
 wpAnyG_sole i hi0 hr (ha.wanted (good_spec hg).1) λw1 h1 K hK=>by
  unfold Oper.wp
  rw [good_exec hg ha,hm w1]
  exact hK _ _ (λ_=>gr_alloc w1 _) (h w1.heap.size _ _ (ha.put (good_spec hg).2.2.1 _) ((hw.gr h1).add (gr_alloc w1 _) (Nat.le_refl _) (Blk.new w1 t cs)))
theorem writeD (k:Nat) {oi:Oper} (hi0:ops.toList[k]? = some oi) (hr:Region.ready .any ops listed=[k]) (hex:ex k=true) (hg:good ops n F oi=true) (i g:Nat) (t:TypeId) (cs cs':Array Value) (hL:L[i]? = some (g,t,cs)) (hm:Writes P F oi g t cs cs')
  (h:wpD P w0 n ops Q ex (putF F oi.dst undef) (L.set i (g,t,cs')) fuel (listed.setIfInBounds k true)):wpD P w0 n ops Q ex F L (fuel+1) listed:=λa w ha hw =>
 wpAnyG_sole k hi0 hr (ha.wanted (good_spec hg).1) λw1 h1 K hK=>by
  obtain ⟨w',e1,e2,e3⟩:=hm w1 ((hw.gr h1).get hL)
  unfold Oper.wp
  rw [good_exec hg ha,e1]
  exact hK _ _ (λe=>by rw [hex] at e; cases e) (h _ _ (ha.put (good_spec hg).2.2.1 _) ((hw.gr h1).set hL e2 e3))
def Gets (w0:World) (v:Value) (e:Ending) (w':World):Prop:=e=.returned v∧Below w0.heap.size w0 w'
def slotsOf:Nat→List Value→Slots
 | _,[]=>[]
 | i,v::r=>(i,v)::slotsOf (i+1) r
theorem lookup_slotsOf:∀ (l:List Value) (i j:Nat) (v:Value),(slotsOf i l).lookup j=some v→i≤j∧l[j - i]? = some v
 | [],_,_,_,h=>by cases h
 | u::r,i,j,v,h=>by
  simp only [slotsOf,List.lookup_cons] at h
  by_cases e:j=i
  ·subst e
   simp at h
   subst h
   exact ⟨Nat.le_refl _,by simp⟩
  ·have e':(j == i)=false:=by simpa using e
   rw [e'] at h
   obtain ⟨h1,h2⟩:=lookup_slotsOf r (i+1) j v h
   refine ⟨by omega,?_⟩
   rw [show j - i=(j - (i+1))+1 by omega]
   simpa using h2
theorem enter {f:FuncId} {fn:Func} {c:Code} {args:List Value} {w:World} {R:Ending→World→Prop} (hf:P.funcs[f]? = some fn) (hb:fn.body=some c) (hn:args.length≤fn.ntmps)
  (h:wpC P (Base.of w) fn.ntmps (bodyPost P fn R) (slotsOf 0 args) [] c):Calls P f args.toArray w R :=
 calls_of_wp hf hb (wpIn_wide.1 (h _ _ ⟨rfl,by simp; omega,λi v hi=>by
  have:=(lookup_slotsOf args 0 i v hi).2
  rw [Nat.sub_zero] at this
  have hl:=(List.getElem?_eq_some_iff.1 this).1
  rw [Array.getElem?_append_left (by simpa using hl)]
  simpa using this⟩ (St.start w)))
theorem enterM {f:FuncId} {fn:Func} {c:Code} {args:List Value} {w:World} {R:Ending→World→Prop} (hf:P.funcs[f]? = some fn) (hb:fn.body=some c) (hn:args.length≤fn.ntmps)
  (h:wpC P (Base.of w) fn.ntmps (bodyPostM Fence.wide 9 P fn R) (slotsOf 0 args) [] c):Calls P f args.toArray w R :=
 (callsIn_wide (n:=9)).1 (callsIn_of_wp_marks hf hb trivial (h _ _ ⟨rfl,by simp; omega,λi v hi=>by
  have:=(lookup_slotsOf args 0 i v hi).2
  rw [Nat.sub_zero] at this
  have hl:=(List.getElem?_eq_some_iff.1 this).1
  rw [Array.getElem?_append_left (by simpa using hl)]
  simpa using this⟩ (St.start w)) rfl)
def Res (P:Program) (F:Slots) (L:Blocks) (r:ResultVar) (v:Value):Prop :=
 match r with
 | .tmp t=>F.lookup t=some v
 | .cell t ty=>∃ (g i:Nat) (ty':TypeId) (cs:Array Value) (d:TypeDesc),F.lookup t=some (.pointer (some ⟨g,0,none⟩))∧L[i]? = some (g,ty',cs)∧P.underlying ty=some d∧d.isRow=true∧(P.info? ty).map (·.size)=some cs.size∧v=.agg cs
theorem Res.cell {t:Tmp} {ty ty':TypeId} {v:Value} (g i:Nat) (cs:Array Value) (d:TypeDesc) (h1:F.lookup t=some (.pointer (some ⟨g,0,none⟩))) (h2:L[i]? = some (g,ty',cs)) (h3:P.underlying ty=some d) (h4:d.isRow=true) (h5:(P.info? ty).map (·.size)=some cs.size) (h6:v=.agg cs):Res P F L (.cell t ty) v :=
 ⟨g,i,ty',cs,d,h1,h2,h3,h4,h5,h6⟩
def ResC (P:Program) (F:Slots) (L:Blocks) (t:Tmp) (ty:TypeId) (v:Value):Prop :=
 ∃ (g i:Nat) (ty':TypeId) (cs:Array Value) (d:TypeDesc),F.lookup t=some (.pointer (some ⟨g,0,none⟩))∧L[i]? = some (g,ty',cs)∧P.underlying ty=some d∧d.isRow=false∧cs[0]? = some v
abbrev Has (P:Program) (F:Slots) (L:Blocks) (r:ResultVar) (v:Value):Prop:=Res P F L r v∨∃ t ty,r=.cell t ty∧ResC P F L t ty v
theorem Res.run {ds:List Deferred} {a:Act} {w:World} {r:ResultVar} {v:Value} (h:Has P F L r v) (ha:Fr ds a n F) (hw:St w0 w L) :
  (∃ t,r=.tmp t∧a.tmps[t]?.getD undef=v)∨∃ t ty ad,r=.cell t ty∧(asAddr (a.tmps[t]?.getD undef)).run P w=.ok ad w∧(loadVar ty ad).run P w=.ok v w:=by
 rcases h with h | ⟨t,ty,rfl,g,i,ty',cs,d,h1,h2,h3,h4,h5⟩
 ·cases r with
  | tmp t=>exact .inl ⟨t,rfl,by simp [ha.2.2 t v h]⟩
  | cell t ty =>
   obtain ⟨g,i,ty',cs,d,h1,h2,h3,h4,h5,rfl⟩:=h
   have e2:=run_loadVar_row (P:=P) w g ty' ty cs (0,0) d (hw.get h2) h3 (by cases d <;> first | rfl | cases h4) h5
   exact .inr ⟨t,ty,⟨g,0,none⟩,rfl,by simp [ha.2.2 t _ h1,asAddr],e2⟩
 ·have hb:=hw.get h2
  have hc:w.cell? ⟨g,0,none⟩=some v:=(hb.cell 0).trans h5
  have hag:(isAgg ty).run P w=.ok false w:=by
   cases d <;> first | (cases h4; done) | simp [isAgg,underlying,h3]
  exact .inr ⟨t,ty,⟨g,0,none⟩,rfl,by simp [ha.2.2 t _ h1,asAddr],by simp [loadVar,hag,hc,Result.andThen]⟩
theorem ret1 {w1:World} {fn:Func} {r:ResultVar} {v:Value} (hr:fn.results=#[r]) (h:Has P F L r v):X (Base.of w1) n (bodyPost P fn (Gets w1 v)) F L .ret:=λa w ha hw=>by
 refine bodyPost_ret (v:=v) ?_ ha.1 ⟨rfl,hw.below⟩
 rcases Res.run h ha hw with ⟨t,rfl,e1⟩ | ⟨t,ty,ad,rfl,e1,e2⟩ <;> simp [results,Result.andThen, *]
theorem ret2 {w1:World} {fn:Func} {r s:ResultVar} {v u:Value} (hr:fn.results=#[r,s]) (h:Has P F L r v) (k:Has P F L s u):X (Base.of w1) n (bodyPost P fn (Gets w1 (.tuple #[v,u]))) F L .ret:=λa w ha hw=>by
 refine bodyPost_ret (v:=.tuple #[v,u]) ?_ ha.1 ⟨rfl,hw.below⟩
 rcases Res.run h ha hw with ⟨t,rfl,e1⟩ | ⟨t,ty,ad,rfl,e1,e2⟩ <;> rcases Res.run k ha hw with ⟨t',rfl,f1⟩ | ⟨t',ty',ad',rfl,f1,f2⟩ <;> simp [results,Result.andThen, *]
end
end Sy
end
section
namespace Ec
variable {n:Nat} [NeZero n]
structure Fld (n:Nat) [NeZero n] (inv:Fin n→Fin n):Prop where
 one:∀ x:Fin n,x≠0→x*inv x=1
 two:∀ x:Fin n,x+x=0→x=0
 noTwo:∀ x y:Fin n,y*y=x*x*x+7→y≠0
variable {inv:Fin n→Fin n}
theorem Fld.zero (H:Fld n inv) {a b:Fin n} (h:a*b=0):a=0∨b=0:=by
 by_cases ha:a=0
 ·exact .inl ha
 ·have:=H.one a ha
  right; grobner
theorem Fld.cancel (H:Fld n inv) {a b c:Fin n} (ha:a≠0) (h:a*b=a*c):b=c:=by
 have:=H.one a ha
 grobner
abbrev Pt (n:Nat):=Option (Fin n×Fin n)
def On:Pt n→Prop
 | none=>True
 | some (x,y)=>y*y=x*x*x+7
def neg:Pt n→Pt n
 | none=>none
 | some (x,y)=>some (x, -y)
def slp (inv:Fin n→Fin n) (x1 y1 x2 y2:Fin n):Fin n:=if x1=x2 then x1*x1*3*inv (y1+y1) else (y2 - y1)*inv (x2 - x1)
def x3 (l x1 x2:Fin n):Fin n:=l*l - x1 - x2
def y3 (l x1 y1 x2:Fin n):Fin n:=l*(x1 - x3 l x1 x2) - y1
def add (inv:Fin n→Fin n):Pt n→Pt n→Pt n
 | none,q=>q
 | some p,none=>some p
 | some (x1,y1),some (x2,y2)=>if x1=x2∧y1+y2=0 then none else some (x3 (slp inv x1 y1 x2 y2) x1 x2,y3 (slp inv x1 y1 x2 y2) x1 y1 x2)
def Col (x1 y1 x2 y2 x3 y3 l v:Fin n):Prop :=
 y1=l*x1+v∧y2=l*x2+v∧y3=l*x3+v∧l*l=x1+x2+x3 ∧ -(2*l*v)=x1*x2+x1*x3+x2*x3∧x1*x2*x3=v*v - 7
theorem line (H:Fld n inv) {x1 y1 x2 y2:Fin n} (h1:y1*y1=x1*x1*x1+7) (h2:y2*y2=x2*x2*x2+7) (hn:¬ (x1=x2∧y1+y2=0)) :
  Col x1 y1 x2 y2 (x3 (slp inv x1 y1 x2 y2) x1 x2) (-(y3 (slp inv x1 y1 x2 y2) x1 y1 x2)) (slp inv x1 y1 x2 y2) (y1 - slp inv x1 y1 x2 y2*x1):=by
 obtain ⟨l,hl⟩:∃ l,l=slp inv x1 y1 x2 y2:=⟨_,rfl⟩
 rw [← hl]
 unfold slp at hl
 by_cases hx:x1=x2
 ·rw [if_pos hx] at hl
  subst hx
  have hy:y1+y2≠0:=λh=>hn ⟨rfl,h⟩
  have he:y1=y2:=by
   have h0:(y1+y2)*(y1 - y2)=0:=by grobner
   rcases H.zero h0 with h | h
   ·exact absurd h hy
   ·grobner
  subst he
  have hi:=H.one _ hy
  have e:l*(y1+y1)=x1*x1*3:=by rw [hl]; grobner
  clear hl hi
  refine ⟨?_,?_,?_,?_,?_,?_⟩ <;> (try unfold y3) <;> (try unfold x3) <;> grobner
 ·rw [if_neg hx] at hl
  have hd:x2 - x1≠0:=by grobner
  have hi:=H.one _ hd
  have e:l*(x2 - x1)=y2 - y1:=by rw [hl]; grobner
  clear hl hi
  have e2:l*(y1+y2)=x1*x1+x1*x2+x2*x2:=by
   refine H.cancel hd ?_
   grobner
  refine ⟨?_,?_,?_,?_,?_,?_⟩ <;> (try unfold y3) <;> (try unfold x3) <;> grobner
theorem Col.swap {x1 y1 x2 y2 x3 y3 l v:Fin n} (h:Col x1 y1 x2 y2 x3 y3 l v):Col x2 y2 x1 y1 x3 y3 l v:=by
 obtain ⟨a,b,c,d,e,f⟩:=h
 exact ⟨b,a,c,by grobner,by grobner,by grobner⟩
theorem Col.rot {x1 y1 x2 y2 x3 y3 l v:Fin n} (h:Col x1 y1 x2 y2 x3 y3 l v):Col x2 y2 x3 y3 x1 y1 l v:=by
 obtain ⟨a,b,c,d,e,f⟩:=h
 exact ⟨b,c,a,by grobner,by grobner,by grobner⟩
theorem Col.on {x1 y1 x2 y2 x3 y3 l v:Fin n} (h:Col x1 y1 x2 y2 x3 y3 l v):y1*y1=x1*x1*x1+7:=by
 obtain ⟨rfl,rfl,rfl,d,e,f⟩:=h
 grobner
theorem neg_line {x y l v:Fin n} (h:y=l*x+v) : -y = -l*x + -v:=by grobner
theorem Col.flip {x1 y1 x2 y2 x3 y3 l v:Fin n} (h:Col x1 y1 x2 y2 x3 y3 l v):Col x1 (-y1) x2 (-y2) x3 (-y3) (-l) (-v):=by
 obtain ⟨a,b,c,d,e,f⟩:=h
 refine ⟨neg_line a,neg_line b,neg_line c,?_,?_,?_⟩
 ·clear a b c e f; grobner
 ·clear a b c d f; grobner
 ·clear a b c d e; grobner
theorem third {l a c e:Fin n} (s:l*l=a+c+e):l*l - a - c=e:=by grobner
theorem third_y {l v a b e f:Fin n} (p:b=l*a+v) (r:f=l*e+v):l*(a - e) - b = -f:=by grobner
theorem tang {l v a b e:Fin n} (p:b=l*a+v) (s:l*l=a+a+e) (t : -(2*l*v)=a*a+a*e+a*e):a*a*3=(b+b)*l:=by
 have:e=l*l - a - a:=by grobner
 subst p this
 grobner
theorem chord {a b c d l v i:Fin n} (p:b=l*a+v) (q:d=l*c+v) (hi:(c - a)*i=1):(c - a)*((d - b)*i)=(c - a)*l:=by
 subst p q
 grobner
theorem neg_neg' (y:Fin n) : - -y=y:=by grobner
theorem Col.add (H:Fld n inv) {a b c d e f l v:Fin n} (h:Col a b c d e f l v):add inv (some (a,b)) (some (c,d))=some (e, -f)∧¬ (a=c∧b+d=0)∧slp inv a b c d=l:=by
 have h1:=h.on
 have hy:=H.noTwo _ _ h1
 obtain ⟨p,q,r,s,t,u⟩:=h
 have hn:¬ (a=c∧b+d=0):=by
  rintro ⟨rfl,k⟩
  have:b=d:=by grobner
  subst this
  exact hy (H.two _ k)
 have hs:slp inv a b c d=l:=by
  unfold slp
  by_cases hx:a=c
  ·rw [if_pos hx]
   subst hx
   have hd:b=d:=by grobner
   subst hd
   have hb:b+b≠0:=λk=>hy (H.two _ k)
   have hi:=H.one _ hb
   refine H.cancel hb ?_
   have e1:(b+b)*(a*a*3*inv (b+b))=a*a*3:=by grobner
   rw [e1]
   exact tang p s t
  ·rw [if_neg hx]
   have hd:c - a≠0:=by grobner
   have hi:=H.one _ hd
   refine H.cancel hd ?_
   exact chord p q hi
 refine ⟨?_,hn,hs⟩
 simp only [Ec.add]
 rw [if_neg hn,hs]
 refine congrArg some (Prod.ext ?_ ?_)
 ·exact third s
 ·show l*(a - x3 l a c) - b = -f
  rw [show x3 l a c=e from third s]; exact third_y p r
theorem add_zero (P:Pt n):add inv P none=P:=by cases P <;> rfl
theorem zero_add (P:Pt n):add inv none P=P:=by cases P <;> rfl
theorem neg_neg (P:Pt n):neg (neg P)=P:=by
 rcases P with _ | ⟨x,y⟩
 ·rfl
 ·show some (x, - -y)=some (x,y); congr 2; grobner
theorem On.neg {P:Pt n} (h:On P):On (neg P):=by
 rcases P with _ | ⟨x,y⟩
 ·trivial
 ·show -y * -y=_
  have:y*y=x*x*x+7:=h
  grobner
theorem add_neg (P:Pt n):add inv P (neg P)=none:=by
 rcases P with _ | ⟨x,y⟩
 ·rfl
 ·simp only [neg,add]
  rw [if_pos ⟨trivial,by grobner⟩]
theorem neg_add (P:Pt n):add inv (neg P) P=none:=by
 have:=add_neg (inv:=inv) (neg P)
 rwa [neg_neg] at this
theorem add_cases (H:Fld n inv) {x1 y1 x2 y2:Fin n} (h1:y1*y1=x1*x1*x1+7) (h2:y2*y2=x2*x2*x2+7) :
  (x1=x2∧y1+y2=0∧add inv (some (x1,y1)) (some (x2,y2))=none)∨(∃ x y l v,Col x1 y1 x2 y2 x (-y) l v∧add inv (some (x1,y1)) (some (x2,y2))=some (x,y)∧slp inv x1 y1 x2 y2=l):=by
 by_cases hn:x1=x2∧y1+y2=0
 ·left
  refine ⟨hn.1,hn.2,?_⟩
  simp only [add]
  rw [if_pos hn]
 ·right
  have h:=line H h1 h2 hn
  refine ⟨_,_,_,_,h,?_,rfl⟩
  simp only [add]
  rw [if_neg hn]
theorem On.add (H:Fld n inv) {P Q:Pt n} (hP:On P) (hQ:On Q):On (add inv P Q):=by
 rcases P with _ | ⟨x1,y1⟩
 ·rw [zero_add]; exact hQ
 rcases Q with _ | ⟨x2,y2⟩
 ·exact hP
 rcases add_cases H hP hQ with ⟨_,_,h⟩ | ⟨x,y,l,v,h,e,_⟩
 ·rw [h]; trivial
 ·rw [e]
  have:=h.rot.rot.on
  show y*y=_
  grobner
theorem comm (H:Fld n inv) {P Q:Pt n} (hP:On P) (hQ:On Q):Ec.add inv P Q=Ec.add inv Q P:=by
 rcases P with _ | ⟨x1,y1⟩
 ·rw [zero_add,add_zero]
 rcases Q with _ | ⟨x2,y2⟩
 ·rw [zero_add,add_zero]
 rcases add_cases H hP hQ with ⟨a,b,h⟩ | ⟨x,y,l,v,h,e,_⟩
 ·rw [h]
  simp only [Ec.add]
  rw [if_pos ⟨a.symm,by grobner⟩]
 ·rw [e,(h.swap.add H).1]
  congr 2; grobner
theorem neg_sum (H:Fld n inv) {P Q:Pt n} (hP:On P) (hQ:On Q):neg (Ec.add inv P Q)=Ec.add inv (neg P) (neg Q):=by
 rcases P with _ | ⟨x1,y1⟩
 ·rw [zero_add]; exact (zero_add _).symm
 rcases Q with _ | ⟨x2,y2⟩
 ·exact (add_zero _).symm
 rcases add_cases H hP hQ with ⟨a,b,h⟩ | ⟨x,y,l,v,h,e,_⟩
 ·rw [h]
  simp only [neg,Ec.add]
  rw [if_pos ⟨a,by grobner⟩]
 ·rw [e]
  have h':=h.flip
  rw [neg_neg'] at h'
  exact ((h'.add H).1).symm
theorem back (H:Fld n inv) {P Q:Pt n} (hP:On P) (hQ:On Q):Ec.add inv (Ec.add inv P Q) (neg Q)=P:=by
 rcases P with _ | ⟨x1,y1⟩
 ·rw [zero_add,add_neg]
 rcases Q with _ | ⟨x2,y2⟩
 ·rfl
 rcases add_cases H hP hQ with ⟨a,b,h⟩ | ⟨x,y,l,v,h,e,_⟩
 ·rw [h,zero_add]
  show some (x2, -y2)=_
  congr 2
  ·exact a.symm
  ·grobner
 ·rw [e]
  have h':=h.flip.rot.rot.rot.rot.swap
  have h':=h.flip
  rw [neg_neg'] at h'
  have:=(h'.rot.rot.swap.rot.rot.swap.add H).1
  show Ec.add inv (some (x,y)) (some (x2, -y2))=_
  have:=(h'.rot.swap.add H).1
  rw [this,neg_neg']
theorem unadd (H:Fld n inv) {P Q R:Pt n} (hP:On P) (hQ:On Q) (hR:On R) (h:Ec.add inv P R=Ec.add inv Q R):P=Q:=by
 rw [← back H hP hR,h,back H hQ hR]
theorem atF {x1 x2 u l v m k y1:Fin n} (h0:l*u+v+(m*u+k)=0) (h1:y1=l*x1+v) (e1:l*l=x1+x2+u) (e2 : -(2*l*v)=x1*x2+x1*u+x2*u) :
  x1*x1+(u+l*m)*x1+(u*(u+l*m)+l*k+v*m) + -(l+m)*y1=0:=by
 subst h1
 grobner
theorem fn {x1 y1 x2 y2 x3 y3 u v s t l c m d:Fin n} (h:Col x1 y1 x2 y2 u (-v) l c) (k:Col u v x3 y3 s (-t) m d) :
  ∃ A B C:Fin n,x1*x1+B*x1+A+C*y1=0∧x2*x2+B*x2+A+C*y2=0∧x3*x3+B*x3+A+C*y3=0∧s*s+B*s+A+C * -t=0 ∧
   C*C - B - B=x1+x2+x3+s∧C = -(l+m)∧B=u+l*m:=by
 obtain ⟨a1,a2,a3,e1,e2,e3⟩:=h
 obtain ⟨b1,b2,b3,f1,f2,f3⟩:=k
 have h0:l*u+c+(m*u+d)=0:=by rw [← a3, ← b1]; clear a1 a2 a3 b1 b2 b3 e1 e2 e3 f1 f2 f3; grobner
 have h0':m*u+d+(l*u+c)=0:=by clear a1 a2 a3 b1 b2 b3 e1 e2 e3 f1 f2 f3; grobner
 have s1:u*(u+m*l)+m*c+d*l=u*(u+l*m)+l*d+c*m:=by clear a1 a2 a3 b1 b2 b3 e1 e2 e3 f1 f2 f3 h0 h0'; grobner
 have s2 : -(m+l) = -(l+m):=by clear a1 a2 a3 b1 b2 b3 e1 e2 e3 f1 f2 f3 h0 h0'; grobner
 have s3:m*l=l*m:=by clear a1 a2 a3 b1 b2 b3 e1 e2 e3 f1 f2 f3 h0 h0'; grobner
 have q1:=atF h0 a1 e1 e2
 have q2:=atF (x1:=x2) (x2:=x1) h0 a2 (by rw [e1]; clear a1 a2 a3 b1 b2 b3 e1 e2 e3 f1 f2 f3 h0 h0'; grobner) (by rw [e2]; clear a1 a2 a3 b1 b2 b3 e1 e2 e3 f1 f2 f3 h0 h0'; grobner)
 have q3:=atF (x1:=x3) (x2:=s) h0' b2 (by rw [f1]; clear a1 a2 a3 b1 b2 b3 e1 e2 e3 f1 f2 f3 h0 h0'; grobner) (by rw [f2]; clear a1 a2 a3 b1 b2 b3 e1 e2 e3 f1 f2 f3 h0 h0'; grobner)
 have q4:=atF (x1:=s) (x2:=x3) h0' b3 (by rw [f1]; clear a1 a2 a3 b1 b2 b3 e1 e2 e3 f1 f2 f3 h0 h0'; grobner) (by rw [f2]; clear a1 a2 a3 b1 b2 b3 e1 e2 e3 f1 f2 f3 h0 h0'; grobner)
 rw [s1,s2,s3] at q3 q4
 refine ⟨_,_,_,q1,q2,q3,q4,?_,rfl,rfl⟩
 clear a1 a2 a3 b1 b2 b3 e2 e3 f2 f3 h0 h0' q1 q2 q3 q4 s1 s2 s3
 grobner
theorem uniq (H:Fld n inv) {a b c x1 y1 x3 y3 l v:Fin n} (h:b+c*l=0) (h1:b*x1+a+c*y1=0) (h3:b*x3+a+c*y3=0) (hl:y1=l*x1+v) (hK:y3≠l*x3+v):a=0∧b=0∧c=0:=by
 have hc:c*(y3 - (l*x3+v))=0:=by
  have hb:b = -(c*l):=by clear h1 h3 hl; grobner
  subst hb hl
  clear h
  grobner
 rcases H.zero hc with rfl | k
 ·have hb:b=0:=by clear h1 h3 hl hc; grobner
  subst hb
  exact ⟨by clear h h3 hl hc; grobner,rfl,rfl⟩
 ·exact absurd (by clear h h1 h3 hl hc; grobner) hK
theorem third_on (H:Fld n inv) {x1 y1 x2 y2 x3 y3 u v l c:Fin n} (h:Col x1 y1 x2 y2 u (-v) l c) (h3:y3*y3=x3*x3*x3+7) (hl:y3=l*x3+c) (n1:x3≠x1) (n2:x3≠x2):x3=u∧y3 = -v:=by
 obtain ⟨a1,a2,a3,e1,e2,e3⟩:=h
 have hz:(x3 - x1)*((x3 - x2)*(x3 - u))=0:=by
  subst hl
  clear a1 a2 a3 n1 n2
  grobner
 have g:x3=u:=by
  rcases H.zero hz with k | k
  ·exact absurd (by clear a1 a2 a3 e1 e2 e3 h3 hl hz; grobner) n1
  rcases H.zero k with k | k
  ·exact absurd (by clear a1 a2 a3 e1 e2 e3 h3 hl hz; grobner) n2
  ·clear a1 a2 a3 e1 e2 e3 h3 hl hz; grobner
 refine ⟨g,?_⟩
 rw [a3,hl,g]
theorem twoRoots (H:Fld n inv) {A B x y:Fin n} (h:x*x+B*x+A=0) (k:y*y+B*y+A=0) (hn:x≠y):x+y+B=0:=by
 have hz:(x - y)*(x+y+B)=0:=by grobner
 rcases H.zero hz with g | g
 ·exact absurd (by clear h k hz; grobner) hn
 ·exact g
theorem same (H:Fld n inv) {A B C A' B' C' x1 x2 x3 s t s' t':Fin n} (eA:A - A'=0) (eB:B - B'=0) (eC:C - C'=0) (hC:C≠0) (hs:C*C - B - B=x1+x2+x3+s) (hs':C'*C' - B' - B'=x2+x3+x1+s')
  (ht:s*s+B*s+A+C * -t=0) (ht':s'*s'+B'*s'+A'+C' * -t'=0):s=s'∧t=t':=by
 have hA:A'=A:=by clear eB eC hs hs' ht ht' hC; grobner
 have hB:B'=B:=by clear eA eC hs hs' ht ht' hC; grobner
 have hD:C'=C:=by clear eB eA hs hs' ht ht' hC; grobner
 subst hA hB hD
 have e:s=s':=by clear eA eB eC ht ht' hC; grobner
 subst e
 refine ⟨rfl,H.cancel hC ?_⟩
 clear eA eB eC hs hs'
 grobner
theorem sub_at {A B C A' B' C' x y:Fin n} (h:x*x+B*x+A+C*y=0) (k:x*x+B'*x+A'+C'*y=0):(B - B')*x+(A - A')+(C - C')*y=0:=by grobner
theorem off {x1 y1 x2 y2:Fin n} (H:Fld n inv) (h1:y1*y1=x1*x1*x1+7) (h2:y2*y2=x2*x2*x2+7) (hn:¬ (x1=x2∧y1=y2)) (hm:¬ (x1=x2∧y1+y2=0)):x1≠x2:=by
 rintro rfl
 have hz:(y1 - y2)*(y1+y2)=0:=by clear hn hm; grobner
 rcases H.zero hz with g | g
 ·exact hn ⟨rfl,by clear h1 h2 hz hn hm; grobner⟩
 ·exact hm ⟨rfl,g⟩
theorem assoc1 (H:Fld n inv) {x1 y1 x2 y2 x3 y3 u v l c s t m d u' v' l' c' s' t' m' d':Fin n} (h:Col x1 y1 x2 y2 u (-v) l c) (k:Col u v x3 y3 s (-t) m d)
  (h':Col x2 y2 x3 y3 u' (-v') l' c') (k':Col u' v' x1 y1 s' (-t') m' d') (n12:x1≠x2) (n23:x2≠x3) (n13:x1≠x3) (hn:¬ (u=x3∧v+y3=0)):s=s'∧t=t':=by
 have o3:=k.rot.on
 obtain ⟨A,B,C,p1,p2,p3,p4,p5, -, -⟩:=fn h k
 obtain ⟨A',B',C',q2,q3,q1,q4,q5, -, -⟩:=fn h' k'
 have r1:=sub_at p1 q1
 have r2:=sub_at p2 q2
 have r3:=sub_at p3 q3
 have hK:y3≠l*x3+c:=λe=>hn (by
  obtain ⟨g,g'⟩:=third_on H h o3 e (Ne.symm n13) (Ne.symm n23)
  exact ⟨g.symm,by rw [g']; clear g g' r1 r2 r3 p1 p2 p3 p4 p5 q1 q2 q3 q4 q5; grobner⟩)
 have hb:(B - B')+(C - C')*l=0:=by
  have a1:=h.1
  have a2:=h.2.1
  refine H.cancel (a:=x1 - x2) (by intro e; exact n12 (by clear r1 r2 r3 p1 p2 p3 p4 p5 q1 q2 q3 q4 q5; grobner)) ?_
  subst a1 a2
  clear p1 p2 p3 p4 p5 q1 q2 q3 q4 q5 hK r3 o3
  grobner
 obtain ⟨eA,eB,eC⟩:=uniq H hb r1 r3 h.1 hK
 refine same H eA eB eC ?_ p5 q5 p4 q4
 rintro rfl
 have w1:=twoRoots H (A:=A) (B:=B) (x:=x1) (y:=x2) (by clear eA eB eC r1 r2 r3 p2 p3 p4 p5 q1 q2 q3 q4 q5 hb; grobner) (by clear eA eB eC r1 r2 r3 p1 p3 p4 p5 q1 q2 q3 q4 q5 hb; grobner) n12
 have w2:=twoRoots H (A:=A) (B:=B) (x:=x1) (y:=x3) (by clear eA eB eC r1 r2 r3 p2 p3 p4 p5 q1 q2 q3 q4 q5 hb; grobner) (by clear eA eB eC r1 r2 r3 p1 p2 p4 p5 q1 q2 q3 q4 q5 hb; grobner) n13
 exact n23 (by clear eA eB eC r1 r2 r3 p1 p2 p3 p4 p5 q1 q2 q3 q4 q5 hb; grobner)
theorem assoc2 (H:Fld n inv) {x1 y1 x3 y3 u v l c s t m d u' v' l' c' s' t' m' d':Fin n} (h:Col x1 y1 x1 y1 u (-v) l c) (k:Col u v x3 y3 s (-t) m d)
  (h':Col x1 y1 x3 y3 u' (-v') l' c') (k':Col u' v' x1 y1 s' (-t') m' d') (n13:x1≠x3) (hn:¬ (u=x3∧v+y3=0)):s=s'∧t=t':=by
 have o3:=k.rot.on
 have o1:=h.on
 have hy:=H.noTwo _ _ o1
 obtain ⟨A,B,C,p1,p2,p3,p4,p5,p6,p7⟩:=fn h k
 obtain ⟨A',B',C',q1,q3,q2,q4,q5,q6,q7⟩:=fn h' k'
 have r1:=sub_at p1 q1
 have r3:=sub_at p3 q3
 have hK:y3≠l*x3+c:=λe=>hn (by
  obtain ⟨g,g'⟩:=third_on H h o3 e (Ne.symm n13) (Ne.symm n13)
  exact ⟨g.symm,by rw [g']; clear g g' r1 r3 p1 p2 p3 p4 p5 p6 p7 q1 q2 q3 q4 q5 q6 q7; grobner⟩)
 have g1:x1+x1+B+C*l=0:=by
  have:=h.2.2.2.1
  subst p6 p7
  clear p1 p2 p3 p4 p5 q1 q2 q3 q4 q5 q6 q7 r1 r3 hK o1 o3
  grobner
 have ht:x1*x1*3=(y1+y1)*l:=tang h.1 h.2.2.2.1 h.2.2.2.2.1
 have g2:x1+x1+B'+C'*l=0:=by
  have a1:=h'.1
  have a3:=h'.2.2.1
  have b1:=k'.1
  have b2:=k'.2.1
  have ou:=k'.on
  subst q6 q7
  clear p1 p2 p3 p4 p5 p6 p7 q1 q2 q3 q4 q5 r1 r3 hK o3 h k h' k'
  have e2:y1+y1=(l'+m')*(x1 - u'):=by clear ht o1 ou; grobner
  have hd:x1 - u'≠0:=λe=>hy (H.two _ (by rw [e2,e]; clear a1 a3 b1 b2 ou ht o1 e2; grobner))
  have e3:l'*m'*(x1 - u')=x1*x1+x1*u'+u'*u':=by
   refine H.cancel hd ?_
   have f1:y1+v'=l'*(x1 - u'):=by clear ht o1 ou e2 b1 b2; grobner
   have f2:y1 - v'=m'*(x1 - u'):=by clear ht o1 ou e2 a1 a3 f1; grobner
   have f3:(y1+v')*(y1 - v')=l'*(x1 - u')*(m'*(x1 - u')):=by rw [f1,f2]
   clear a1 a3 b1 b2 e2 f1 f2 ht
   grobner
  refine H.cancel hd ?_
  rw [e2] at ht
  clear a1 a3 b1 b2 e2 o1 ou
  grobner
 have hb:(B - B')+(C - C')*l=0:=by clear p1 p2 p3 p4 p5 p6 p7 q1 q2 q3 q4 q5 q6 q7 r1 r3 o1 o3 ht; grobner
 obtain ⟨eA,eB,eC⟩:=uniq H hb r1 r3 h.1 hK
 refine same H (x1:=x1) (x2:=x1) (x3:=x3) eA eB eC ?_ p5 q5 p4 q4
 intro hC
 rw [hC] at p1 p3 g1
 have w2:=twoRoots H (A:=A) (B:=B) (x:=x1) (y:=x3) (by clear eA eB eC r1 r3 p2 p3 p4 p5 p6 p7 q1 q2 q3 q4 q5 q6 q7 hb g1 g2; grobner) (by clear eA eB eC r1 r3 p1 p2 p4 p5 p6 p7 q1 q2 q3 q4 q5 q6 q7 hb g1 g2; grobner) n13
 exact n13 (by clear eA eB eC r1 r3 p1 p2 p3 p4 p5 p6 p7 q1 q2 q3 q4 q5 q6 q7 hb g2 ht; grobner)
theorem assoc (H:Fld n inv) {P Q R:Pt n} (hP:On P) (hQ:On Q) (hR:On R):Ec.add inv (Ec.add inv P Q) R=Ec.add inv P (Ec.add inv Q R):=by
 by_cases cPR:P=R
 ·subst cPR
  rw [comm H (On.add H hP hQ) hP,comm H hP hQ]
 by_cases cPR':R=neg P
 ·subst cPR'
  have e1:Ec.add inv (Ec.add inv P Q) (neg P)=Q:=by rw [comm H hP hQ]; exact back H hQ hP
  have e2:Ec.add inv P (Ec.add inv Q (neg P))=Q:=by
   have:=back H hQ (On.neg hP)
   rw [neg_neg] at this
   rw [comm H hP (On.add H hQ (On.neg hP))]; exact this
  rw [e1,e2]
 by_cases cPQ':Q=neg P
 ·subst cPQ'
  rw [add_neg,zero_add,comm H (On.neg hP) hR,comm H hP (On.add H hR (On.neg hP))]
  have:=back H hR (On.neg hP)
  rw [neg_neg] at this
  exact this.symm
 by_cases cQR':R=neg Q
 ·subst cQR'
  rw [add_neg,add_zero]
  exact back H hP hQ
 by_cases cS:Ec.add inv P Q=neg R
 ·rw [cS,neg_add]
  have e:P=neg (Ec.add inv Q R):=by
   have:=back H hP hQ
   rw [cS] at this
   rw [neg_sum H hQ hR,comm H (On.neg hQ) (On.neg hR),this]
  conv=>rhs; rw [e]
  rw [neg_add]
 by_cases cU:P=neg (Ec.add inv Q R)
 ·exact absurd (by
   conv=>lhs; rw [cU]
   rw [neg_sum H hQ hR,comm H (On.neg hQ) (On.neg hR)]
   have:=back H (On.neg hR) (On.neg hQ)
   rwa [neg_neg] at this) cS
 rcases P with _ | ⟨x1,y1⟩
 ·rw [zero_add,zero_add]
 rcases Q with _ | ⟨x2,y2⟩
 ·rw [zero_add]; rfl
 rcases R with _ | ⟨x3,y3⟩
 ·rw [add_zero,add_zero]
 have hno:∀ {a b c d:Fin n},some (a,b)≠neg (some (c,d))→¬ (c=a∧d+b=0):=by
  rintro a b c d h ⟨rfl,h2⟩
  refine h ?_
  show some (c,b)=some (c, -d)
  rw [show b = -d by clear h hP hQ hR cPR cPR' cPQ' cQR' cS cU; grobner]
 rcases add_cases H hP hQ with ⟨a1,a2,a3⟩ | ⟨u,v,l,c,hS,eS,_⟩
 ·exact absurd ⟨a1,a2⟩ (hno cPQ')
 rcases add_cases H hQ hR with ⟨a1,a2,a3⟩ | ⟨u',v',l',c',hU,eU,_⟩
 ·exact absurd ⟨a1,a2⟩ (hno cQR')
 rw [eS] at cS ⊢
 rw [eU] at cU ⊢
 have oS:On (some (u,v)):=by have:=On.add H hP hQ; rwa [eS] at this
 have oU:On (some (u',v')):=by have:=On.add H hQ hR; rwa [eU] at this
 rw [comm H hP oU]
 have nS:¬ (u=x3∧v+y3=0):=by
  rintro ⟨rfl,h⟩
  exact hno cS ⟨rfl,by clear hP hQ hR cPR cPR' cPQ' cQR' cS cU eS eU hS hU oS oU; grobner⟩
 have nU:=hno cU
 rcases add_cases H oS hR with ⟨a1,a2,_⟩ | ⟨s,t,m,d,k,eW,_⟩
 ·exact absurd ⟨a1,a2⟩ nS
 rcases add_cases H oU hP with ⟨a1,a2,_⟩ | ⟨s',t',m',d',k',eW',_⟩
 ·exact absurd ⟨a1,a2⟩ nU
 rw [eW,eW']
 have n13:x1≠x3:=off H hP hR (λe=>cPR (by rw [e.1,e.2])) (hno cPR')
 suffices hst:s=s'∧t=t' by rw [hst.1,hst.2]
 by_cases e12:(x1,y1)=(x2,y2)
 ·injection e12 with e1 e2
  subst e1 e2
  exact assoc2 H hS k hU k' n13 nS
 by_cases e23:(x2,y2)=(x3,y3)
 ·injection e23 with e1 e2
  subst e1 e2
  have nU':¬ (u'=x1∧v'+y1=0):=nU
  have h:=assoc2 H hU k' hS.swap k (Ne.symm n13) nU'
  exact ⟨h.1.symm,h.2.symm⟩
 have n12:x1≠x2:=off H hP hQ (λe=>e12 (by rw [e.1,e.2])) (hno cPQ')
 have n23:x2≠x3:=off H hQ hR (λe=>e23 (by rw [e.1,e.2])) (hno cQR')
 exact assoc1 H hS k hU k' n12 n23 n13 nS
end Ec
end
section
namespace Ec
variable {n:Nat} [NeZero n] {inv:Fin n→Fin n}
def nm (inv:Fin n→Fin n):Nat→Pt n→Pt n
 | 0,_=>none
 | k+1,P=>Ec.add inv (nm inv k P) P
theorem On.nm (H:Fld n inv) {P:Pt n} (hP:On P):∀ k,On (nm inv k P)
 | 0=>trivial
 | k+1=>On.add H (On.nm H hP k) hP
theorem nm_one (P:Pt n):nm inv 1 P=P:=zero_add P
theorem nm_none:∀ k,nm inv k (none:Pt n)=none
 | 0=>rfl
 | k+1=>by unfold nm; rw [nm_none k]; rfl
theorem nm_add (H:Fld n inv) {P:Pt n} (hP:On P) (a:Nat):∀ b,nm inv (a+b) P=Ec.add inv (nm inv a P) (nm inv b P)
 | 0=>(add_zero _).symm
 | b+1=>by
  show Ec.add inv (nm inv (a+b) P) P=Ec.add inv (nm inv a P) (Ec.add inv (nm inv b P) P)
  rw [nm_add H hP a b,assoc H (hP.nm H a) (hP.nm H b) hP]
theorem nm_mul (H:Fld n inv) {P:Pt n} (hP:On P) (b:Nat):∀ a,nm inv (a*b) P=nm inv a (nm inv b P)
 | 0=>by rw [Nat.zero_mul]; rfl
 | a+1=>by
  rw [Nat.add_mul,Nat.one_mul,nm_add H hP,nm_mul H hP b a]
  rfl
theorem add4 (H:Fld n inv) {P Q R S:Pt n} (hP:On P) (hQ:On Q) (hR:On R) (hS:On S):Ec.add inv (Ec.add inv P Q) (Ec.add inv R S)=Ec.add inv (Ec.add inv P R) (Ec.add inv Q S):=by
 rw [assoc H hP hQ (On.add H hR hS), ← assoc H hQ hR hS,comm H hQ hR,assoc H hR hQ hS, ← assoc H hP hR (On.add H hQ hS)]
theorem nm_sum (H:Fld n inv) {P Q:Pt n} (hP:On P) (hQ:On Q):∀ k,nm inv k (Ec.add inv P Q)=Ec.add inv (nm inv k P) (nm inv k Q)
 | 0=>rfl
 | k+1=>by
  show Ec.add inv (nm inv k (Ec.add inv P Q)) _=Ec.add inv (Ec.add inv _ P) (Ec.add inv _ Q)
  rw [nm_sum H hP hQ k]
  exact add4 H (hP.nm H k) (hQ.nm H k) hP hQ
theorem nm_comm (H:Fld n inv) {P:Pt n} (hP:On P) (a b:Nat):nm inv a (nm inv b P)=nm inv b (nm inv a P):=by
 rw [← nm_mul H hP, ← nm_mul H hP,Nat.mul_comm]
theorem twice_none (H:Fld n inv) {P:Pt n} (hP:On P) (h:Ec.add inv P P=none):P=none:=by
 rcases P with _ | ⟨x,y⟩
 ·rfl
 ·rcases add_cases H hP hP with ⟨_,h2,_⟩ | ⟨_,_,_,_,_,e,_⟩
  ·exact absurd (H.two _ h2) (H.noTwo _ _ hP)
  ·rw [e] at h; cases h
theorem pigeon:∀ (k m:Nat) (f:Nat→Nat),(∀ i,i<m→f i<k)→(∀ i j,i<m→j<m→f i=f j→i=j)→m≤k
 | 0,m,f,h,_=>by
  rcases m with _ | m
  ·exact Nat.le_refl _
  ·exact absurd (h 0 (Nat.succ_pos _)) (Nat.not_lt_zero _)
 | k+1,m,f,h,hi=>by
  rcases m with _ | m
  ·exact Nat.zero_le _
  refine Nat.succ_le_succ ?_
  by_cases hx:∃ i,i<m+1∧f i=k
  ·obtain ⟨i0,h0,e0⟩:=hx
   refine pigeon k m (λi=>if i=i0 then f m else f i) (λi hlt=>?_) (λi j hlt hlt' he=>?_)
   ·by_cases e:i=i0
    ·rw [if_pos e]
     subst e
     have h1:=h m (Nat.lt_succ_self _)
     have h2:f m≠k:=λe=>by have:=hi m i (Nat.lt_succ_self _) h0 (by rw [e,e0]); omega
     omega
    ·rw [if_neg e]
     have h1:=h i (by omega)
     have h2:f i≠k:=λe'=>e (hi i i0 (by omega) h0 (by rw [e',e0]))
     omega
   ·by_cases e:i=i0
    ·rw [if_pos e] at he
     by_cases e':j=i0
     ·rw [e,e']
     ·rw [if_neg e'] at he
      have:=hi m j (by omega) (by omega) he
      omega
    ·rw [if_neg e] at he
     by_cases e':j=i0
     ·rw [if_pos e'] at he
      have:=hi i m (by omega) (by omega) he
      omega
     ·rw [if_neg e'] at he
      exact hi i j (by omega) (by omega) he
  ·refine pigeon k m f (λi hlt=>?_) (λi j hlt hlt' he=>hi i j (by omega) (by omega) he)
   have h1:=h i (by omega)
   have h2:f i≠k:=λe=>hx ⟨i,by omega,e⟩
   omega
def code:Pt n→Nat
 | none=>2*n
 | some (x,y)=>2*x.val+y.val%2
omit [NeZero n] in
theorem code_lt (P:Pt n):code P<2*n+1:=by
 rcases P with _ | ⟨x,y⟩
 ·exact Nat.lt_succ_self _
 ·have:=x.isLt
  show 2*x.val+y.val%2<_
  omega
theorem val_of_sum {x y:Fin n} (h:x+y=0) (hx:x≠0):x.val+y.val=n:=by
 have h1:(x.val+y.val)%n=0:=by
  have:=congrArg Fin.val h
  rw [Fin.val_add] at this
  exact this
 have h2:=x.isLt
 have h3:=y.isLt
 have h4:x.val≠0:=λe=>hx (Fin.ext e)
 have h5:=Nat.div_add_mod (x.val+y.val) n
 rw [h1] at h5
 have h6:(x.val+y.val) / n<2:=Nat.div_lt_of_lt_mul (by omega)
 have h7:(x.val+y.val) / n≠0:=λe=>by rw [e] at h5; omega
 have h8:(x.val+y.val) / n=1:=by
  clear h5 h1
  generalize (x.val+y.val) / n=q at *
  omega
 rw [h8] at h5
 omega
theorem code_inj (H:Fld n inv) (ho:n%2=1) {P Q:Pt n} (hP:On P) (hQ:On Q) (h:code P=code Q):P=Q:=by
 rcases P with _ | ⟨x,y⟩ <;> rcases Q with _ | ⟨u,v⟩
 ·rfl
 ·have:=u.isLt
  have h':2*n=2*u.val+v.val%2:=h
  omega
 ·have:=x.isLt
  have h':2*x.val+y.val%2=2*n:=h
  omega
 ·have h':2*x.val+y.val%2=2*u.val+v.val%2:=h
  have e:x=u:=Fin.ext (by omega)
  subst e
  by_cases e:y=v
  ·rw [e]
  by_cases e':y+v=0
  ·have h1:=val_of_sum e' (H.noTwo _ _ hP)
   omega
  ·exact absurd rfl (off H hP hQ (λk=>e k.2) (λk=>e' k.2))
theorem small_order (H:Fld n inv) {G:Pt n} (hG:On G) (hne:G≠none) {N:Nat} (hN:nm inv N G=none) (hp:∀ d,d ∣ N→d=1∨d=N) {d:Nat} (hd:0<d) (hlt:d<N):nm inv d G≠none:=by
 intro h
 have hmod:∀ a b,nm inv a G=none→nm inv b G=none→nm inv (a%b) G=none:=λa b ha hb=>by
  have h1:=Nat.div_add_mod a b
  have h2:nm inv (b*(a / b)+a%b) G=none:=by rw [h1]; exact ha
  rw [nm_add H hG,Nat.mul_comm,nm_mul H hG,hb,nm_none,zero_add] at h2
  exact h2
 have hg:nm inv (Nat.gcd d N) G=none:=by
  have:∀ (k a b:Nat),b≤k→nm inv a G=none→nm inv b G=none→nm inv (Nat.gcd b a) G=none:=by
   intro k
   induction k with
   | zero =>
    intro a b hb ha _
    obtain rfl:b=0:=by omega
    rw [Nat.gcd_zero_left]; exact ha
   | succ k ih =>
    intro a b hb ha hb'
    rcases Nat.eq_zero_or_pos b with rfl | hpos
    ·rw [Nat.gcd_zero_left]; exact ha
    ·rw [Nat.gcd_rec]
     exact ih b (a%b) (by have:=Nat.mod_lt a hpos; omega) hb' (hmod a b ha hb')
  exact this d N d (Nat.le_refl _) hN h
 rcases hp _ (Nat.gcd_dvd_right d N) with e | e
 ·rw [e,nm_one] at hg
  exact hne hg
 ·have:=Nat.le_of_dvd hd (Nat.gcd_dvd_left d N)
  omega
theorem all_order (H:Fld n inv) (ho:n%2=1) {G:Pt n} (hG:On G) (hne:G≠none) {N:Nat} (hN:nm inv N G=none) (hp:∀ d,d ∣ N→d=1∨d=N) (hbig:2*n+1<3*N)
  {Q:Pt n} (hQ:On Q):nm inv N Q=none:=by
 have hN0:0<N:=by omega
 let T:Nat→Pt n:=λt=>Ec.add inv (nm inv (t%N) G) (nm inv (t / N) Q)
 have hT:∀ t,On (T t):=λt=>On.add H (hG.nm H _) (hQ.nm H _)
 have key:∀ a b e,a<N→b<N→(nm inv a G=Ec.add inv (nm inv b G) (nm inv e Q))→nm inv e (nm inv N Q)=none:=λa b e _ _ h=>by
  have h1:=congrArg (nm inv N) h
  rw [nm_sum H (hG.nm H _) (hQ.nm H _),nm_comm H hG,hN,nm_none,nm_comm H hG N b,hN,nm_none,zero_add,nm_comm H hQ] at h1
  exact h1.symm
 have one2:∀ e,0<e→e<3→nm inv e (nm inv N Q)=none→nm inv N Q=none:=λe h0 h3 h=>by
  rcases (show e=1∨e=2 by omega) with rfl | rfl
  ·rw [nm_one] at h; exact h
  ·have h':Ec.add inv (nm inv 1 (nm inv N Q)) (nm inv N Q)=none:=h
   rw [nm_one] at h'
   exact twice_none H (hQ.nm H _) h'
 have split:∀ t s,t<3*N→s<3*N→t / N<s / N→T t=T s→nm inv N Q=none:=λt s ht hs hlt he=>by
  have d3:s / N<3:=Nat.div_lt_of_lt_mul (by rw [Nat.mul_comm]; exact hs)
  obtain ⟨e,he0⟩:∃ e,s / N=t / N+e:=⟨s / N - t / N,by omega⟩
  have h1:Ec.add inv (nm inv (t%N) G) (nm inv (t / N) Q)=Ec.add inv (Ec.add inv (nm inv (s%N) G) (nm inv e Q)) (nm inv (t / N) Q):=by
   have h2:T s=Ec.add inv (nm inv (s%N) G) (nm inv (e+t / N) Q):=by
    show Ec.add inv _ (nm inv (s / N) Q)=_
    rw [he0,Nat.add_comm]
   rw [nm_add H hQ, ← assoc H (hG.nm H _) (hQ.nm H _) (hQ.nm H _)] at h2
   exact he.trans h2
  have h2:=unadd H (hG.nm H _) (On.add H (hG.nm H _) (hQ.nm H _)) (hQ.nm H _) h1
  have e3:e<3:=Nat.lt_of_le_of_lt (Nat.le_add_left e (t / N)) (he0 ▸ d3)
  have e0:0<e:=by
   generalize t / N=q at *
   generalize s / N=q' at *
   omega
  exact one2 e e0 e3 (key _ _ e (Nat.mod_lt _ hN0) (Nat.mod_lt _ hN0) h2)
 have flat:∀ t s,t<s→s / N=t / N→T t=T s→False:=λt s hts hq he=>by
  have h1:Ec.add inv (nm inv (t%N) G) (nm inv (t / N) Q)=Ec.add inv (nm inv (s%N) G) (nm inv (t / N) Q):=by
   have h2:T s=Ec.add inv (nm inv (s%N) G) (nm inv (t / N) Q):=by
    show Ec.add inv _ (nm inv (s / N) Q)=_
    rw [hq]
   exact he.trans h2
  have h2:=unadd H (hG.nm H _) (hG.nm H _) (hQ.nm H _) h1
  have e1:=Nat.div_add_mod t N
  have e2:=Nat.div_add_mod s N
  rw [hq] at e2
  have l1:=Nat.mod_lt t hN0
  have l2:=Nat.mod_lt s hN0
  obtain ⟨d,hd⟩:∃ d,s%N=d+t%N:=⟨s%N - t%N,by omega⟩
  rw [hd,nm_add H hG] at h2
  have h3:Ec.add inv none (nm inv (t%N) G)=Ec.add inv (nm inv d G) (nm inv (t%N) G):=by rw [zero_add]; exact h2
  have h4:=unadd H (P:=none) (Q:=nm inv d G) trivial (hG.nm H d) (hG.nm H (t%N)) h3
  exact small_order H hG hne hN hp (d:=d) (by omega) (by omega) h4.symm
 by_cases hex:∃ t s,t<3*N∧s<3*N∧t<s∧T t=T s
 ·obtain ⟨t,s,ht,hs,hts,he⟩:=hex
  rcases Nat.lt_or_ge (t / N) (s / N) with hlt | hge
  ·exact split t s ht hs hlt he
  ·have:t / N≤s / N:=Nat.div_le_div_right (Nat.le_of_lt hts)
   exact (flat t s hts (by omega) he).elim
 ·have hm:=pigeon (2*n+1) (3*N) (λt=>code (T t)) (λt _=>code_lt _) (λi j hi hj he=>by
   have he':=code_inj H ho (hT i) (hT j) he
   rcases Nat.lt_trichotomy i j with h | h | h
   ·exact absurd ⟨i,j,hi,hj,h,he'⟩ hex
   ·exact h
   ·exact absurd ⟨j,i,hj,hi,h,he'.symm⟩ hex)
  omega
theorem nm_mod (H:Fld n inv) {P:Pt n} (hP:On P) {N:Nat} (hN:nm inv N P=none) (k:Nat):nm inv (k%N) P=nm inv k P:=by
 conv=>rhs; rw [← Nat.div_add_mod k N]
 rw [nm_add H hP,Nat.mul_comm,nm_mul H hP,hN,nm_none,zero_add]
end Ec
end
section
section
open Go.RowKit Go.Lib
namespace M64
theorem maskN (a:Nat) (ha:a<18446744073709551616):bits .and .u64 (a:Int) 4294967295=((a%4294967296:Nat):Int):=by
 have h:=bits_and_u64_nat a 4294967295 ha (by omega)
 have e:a &&& 4294967295=a%4294967296:=Nat.and_two_pow_sub_one_eq_mod a 32
 rw [e] at h
 exact h
theorem divN (a:Nat):(a:Int) / 4294967296=((a / 4294967296:Nat):Int):=by omega
theorem mulN (a b:Nat):(a:Int)*(b:Int)=((a*b:Nat):Int):=(Int.natCast_mul a b).symm
theorem addN (a b:Nat):(a:Int)+(b:Int)=((a+b:Nat):Int):=(Int.natCast_add a b).symm
theorem wrapN (a:Nat) (ha:a<18446744073709551616):IntKind.u64.wrap (a:Int)=(a:Int):=by rw [IntKind.wrap_u64]; omega
theorem wrapM (a:Nat):IntKind.u64.wrap (a:Int)=((a%18446744073709551616:Nat):Int):=by rw [IntKind.wrap_u64]; omega
end M64
set_option maxHeartbeats 1000000 in
theorem mul64_any (w:World) (x y:Nat) (hx:x<18446744073709551616) (hy:y<18446744073709551616) :
  Calls Tryz.prog 182 #[.int .u64 x,.int .u64 y] w λe w'=>e=.returned (.tuple #[.int .u64 ((x*y / 18446744073709551616:Nat):Int),.int .u64 ((x*y%18446744073709551616:Nat):Int)])∧w'=w:=by
 obtain ⟨bd,bt,bw,hhi⟩:=Lib.mul64_hi x y hx hy
 have ba:=Lib.half_mul_le (a:=x / 4294967296) (b:=y / 4294967296) (by omega) (by omega)
 have bb:=Lib.half_mul_le (a:=x / 4294967296) (b:=y%4294967296) (by omega) (by omega)
 have bc:=Lib.half_mul_le (a:=x%4294967296) (b:=y / 4294967296) (by omega) (by omega)
 have ba':x / 4294967296*(y / 4294967296)<18446744073709551616:=by omega
 have bb':x / 4294967296*(y%4294967296)<18446744073709551616:=by omega
 have bc':x%4294967296*(y / 4294967296)<18446744073709551616:=by omega
 have bh1:x / 4294967296*(y / 4294967296)+(x / 4294967296*(y%4294967296)+x%4294967296*(y%4294967296) / 4294967296) / 4294967296<18446744073709551616:=by omega
 have bh:x / 4294967296*(y / 4294967296)+(x / 4294967296*(y%4294967296)+x%4294967296*(y%4294967296) / 4294967296) / 4294967296+((x / 4294967296*(y%4294967296)+x%4294967296*(y%4294967296) / 4294967296)%4294967296+x%4294967296*(y / 4294967296)) / 4294967296<18446744073709551616:=by omega
 go_enter Tryz.func182,Tryz.ntmps182
 go_wp2
 simp only [M64.maskN x hx,M64.maskN y hy,M64.divN,M64.mulN,M64.addN,M64.wrapN _ bd,M64.wrapN _ bb',M64.wrapN _ bt,M64.maskN _ bt,M64.wrapN _ bc',M64.wrapN _ bw,M64.wrapN _ ba',M64.wrapN _ bh1,M64.wrapN _ bh,M64.wrapM (x*y)]
 rw [hhi]
 exact bodyPost_ret (v:=.tuple #[_,_]) (by simp [results,Tryz.results182,go_sem]) rfl ⟨rfl,rfl⟩
theorem mul64_at (w:World) (x y hi lo:Nat) (hx:x<18446744073709551616) (hy:y<18446744073709551616) (hlo:lo<18446744073709551616) (he:lo+18446744073709551616*hi=x*y) :
  Calls Tryz.prog 182 #[.int .u64 x,.int .u64 y] w λe w'=>e=.returned (.tuple #[.int .u64 (hi:Int),.int .u64 (lo:Int)])∧w'=w:=by
 have e1:x*y / 18446744073709551616=hi:=by omega
 have e2:x*y%18446744073709551616=lo:=by omega
 have h:=mul64_any w x y hx hy
 rw [e1,e2] at h
 exact h
theorem mul_ex (x y:Nat) (hx:x<18446744073709551616) (hy:y<18446744073709551616):∃ hi lo:Nat,lo<18446744073709551616∧hi+2≤18446744073709551616∧lo+18446744073709551616*hi=x*y:=by
 have h:x*y≤18446744073709551615*18446744073709551615:=Nat.mul_le_mul (by omega) (by omega)
 exact ⟨x*y / 18446744073709551616,x*y%18446744073709551616,by omega,by omega,by omega⟩
set_option maxHeartbeats 1000000 in
theorem times_at {v:Value} (w:World) (x m s t:Nat) (h1:fv x=v) (hx:x<(2^256)) (hm:m<18446744073709551616) (hs:s<(2^256)) (he:s+(2^256)*t=x*m) :
  Calls Tryz.prog 245 #[v,.int .u64 (m:Int)] w λe w'=>e=.returned (.tuple #[fv s,.int .u64 (t:Int)])∧Below w.heap.size w w':=by
 subst h1
 obtain ⟨x0,x1,x2,x3,a0,a1,a2,a3,ex,fx⟩:=words_of x hx
 obtain ⟨p0,q0,b0,c0,e0⟩:=mul_ex x0 m a0 hm
 obtain ⟨p1,q1,b1,c1,e1⟩:=mul_ex x1 m a1 hm
 obtain ⟨p2,q2,b2,c2,e2⟩:=mul_ex x2 m a2 hm
 obtain ⟨p3,q3,b3,c3,e3⟩:=mul_ex x3 m a3 hm
 have em:x*m=x0*m+18446744073709551616*(x1*m)+340282366920938463463374607431768211456*(x2*m)+6277101735386680763835789423207666416102355444464034512896*(x3*m):=by rw [ex,row_mul]
 have fl:=fv_mk q0 q1 q2 q3 b0 b1 b2 b3
 have fh:=fv_mk 0 p0 p1 p2 (by omega) (by omega) (by omega) (by omega)
 obtain ⟨L,hL⟩:∃ L,L=q0+18446744073709551616*q1+340282366920938463463374607431768211456*q2+6277101735386680763835789423207666416102355444464034512896*q3:=⟨_,rfl⟩
 obtain ⟨H,hH⟩:∃ H,H=0+18446744073709551616*p0+340282366920938463463374607431768211456*p1+6277101735386680763835789423207666416102355444464034512896*p2:=⟨_,rfl⟩
 obtain ⟨k,hk⟩:∃ k,L+H=s+(2^256)*k∧t=p3+k:=by
  refine ⟨t - p3,?_,?_⟩ <;> omega
 have hLt:L<(2^256):=by omega
 have hHt:H<(2^256):=by omega
 have hp:=λw=>plus_at w L H s k rfl rfl hLt hHt hs hk.1.symm
 rw [← hL] at fl
 rw [← hH] at fh
 have m0:=λw=>mul64_at w x0 m p0 q0 a0 hm b0 e0
 have m1:=λw=>mul64_at w x1 m p1 q1 a1 hm b1 e1
 have m2:=λw=>mul64_at w x2 m p2 q2 a2 hm b2 e2
 have m3:=λw=>mul64_at w x3 m p3 q3 a3 hm b3 e3
 have hadd:(p3:Int)+(k:Int)=(t:Int):=by omega
 have ht:t<18446744073709551616:=by omega
 have hp:=λw=>plus_at w L H s k fl.symm fh.symm hLt hHt hs hk.1.symm
 rw [fx]
 clear ex fx a0 a1 a2 a3 b0 b1 b2 b3 c0 c1 c2 c3 e0 e1 e2 e3 em fl fh hL hH hk hLt hHt he hs hx hm
 go_enter Tryz.func245,Tryz.ntmps245
 go_wp2_with fail
 refine (m0 _).mono ?_
 rintro e w1 ⟨rfl,rfl⟩
 go_wp2_with fail
 refine (m1 _).mono ?_
 rintro e w1 ⟨rfl,rfl⟩
 go_wp2_with fail
 refine (m2 _).mono ?_
 rintro e w1 ⟨rfl,rfl⟩
 go_wp2_with fail
 refine (m3 _).mono ?_
 rintro e w1 ⟨rfl,rfl⟩
 go_wp2_with fail
 refine (hp _).mono ?_
 rintro e w1 ⟨rfl,hb⟩
 have hR:Blk w1 (w.heap.size+1) 280 _:=Gr.blk hb (blk_new2 w _ _ _)
 have hB:Below w.heap.size w w1:=Below.gr (below_alloc2 w _ _) hb
 go_wp2_with (first | ((with_reducible refine here_store ?_); refine wpList_store_blk rfl _ _ _ rfl (w.heap.size+1) (fcs (s)) rfl rfl _ _ (hR) (by kernel_rfl) (by rfl) (fcs_one _) ?_; intro w2 hL2 hB2 hK2) | ((with_reducible refine here_load (d:=some 56) ?_); refine wpList_load_fv rfl _ _ rfl (w.heap.size+1) rfl (s) _ _ _ (hL2) (fv_fcs s) Tryz.underlying280 rfl (by kernel_rfl) ?_) | ((with_reducible refine here_store ?_); refine wpList_store_blk rfl _ _ _ rfl (w.heap.size+1) (fcs (s)) rfl rfl _ _ (hL2) (by kernel_rfl) (by rfl) (fcs_one _) ?_; intro w3 hL3 hB3 hK3))
 exact bodyPost_ret (res_cell_tmp rfl _ _ (w.heap.size+1) _ _ _ _ rfl hL3 rfl Tryz.underlying280 rfl (by kernel_rfl)) rfl ⟨rfl,hB.trans ((hB2 _ (by omega)).trans (hB3 _ (by omega)))⟩
end
end
section
section
open Go.RowKit Go.Lib
theorem fcs_words {n:Nat} {a b c d:Int} (h:fv n=.agg #[.int .u64 a,.int .u64 b,.int .u64 c,.int .u64 d]):fcs n=#[.int .u64 a,.int .u64 b,.int .u64 c,.int .u64 d]:=by
 rw [fv_fcs] at h
 injection h
set_option maxHeartbeats 1000000 in
set_option maxRecDepth 100000 in
theorem row_at {v1 v3:Value} (w:World) (x m c lo hi:Nat) (h1:fv x=v1) (h3:fv c=v3) (hx:x<(2^256)) (hm:m<18446744073709551616) (hc:c<(2^256)) (hlo:lo<18446744073709551616) (he:lo+18446744073709551616*hi=x*m+c) :
  Calls Tryz.prog 258 #[v1,.int .u64 (m:Int),v3] w λe w'=>e=.returned (.tuple #[.int .u64 (lo:Int),fv hi])∧Below w.heap.size w w':=by
 subst h1 h3
 obtain ⟨x0,x1,x2,x3,fx⟩:=words_fv x hx
 obtain ⟨c0,c1,c2,c3,fc⟩:=words_fv c hc
 obtain ⟨s,t,hs,hst,ht⟩:∃ s t:Nat,s<(2^256)∧s+(2^256)*t=x*m∧t+1<18446744073709551616:=by
  have h:x*m≤115792089237316195423570985008687907853269984665640564039457584007913129639935*18446744073709551615:=Nat.mul_le_mul (by omega) (by omega)
  exact ⟨x*m%(2^256),x*m / (2^256),by omega,by omega,by omega⟩
 obtain ⟨u,k,hu,hk,huk⟩:∃ u k:Nat,u<(2^256)∧k≤1∧u+(2^256)*k=s+c:=⟨(s+c)%(2^256),(s+c) / (2^256),by omega,by omega,by omega⟩
 obtain ⟨u0,u1,u2,u3,d0,d1,d2,d3,eu,fu⟩:=words_of u hu
 obtain ⟨t1,ht1⟩:∃ t1,t1=t+k:=⟨_,rfl⟩
 obtain rfl:u0=lo:=by omega
 have hhi:u1+18446744073709551616*u2+340282366920938463463374607431768211456*u3+6277101735386680763835789423207666416102355444464034512896*t1=hi:=by omega
 have fh:=fv_mk u1 u2 u3 t1 d1 d2 d3 (by omega)
 rw [hhi] at fh
 have ct:=λw=>times_at (v:=fv x) w x m s t rfl hx hm hs hst
 have cp:=λw=>plus_at (v1:=fv s) (v2:=fv c) w s c u k rfl rfl hs hc hu huk
 have hadd:(t:Int)+(k:Int)=(t1:Int):=by omega
 have ht1':t1<18446744073709551616:=by omega
 have FX:=Lib.hid fx
 have FC:=Lib.hid fc
 have FU:=Lib.hid fu
 have FH:=Lib.hid fh
 have ct':∀ w,Calls Tryz.prog 245 #[.agg #[.int .u64 x0,.int .u64 x1,.int .u64 x2,.int .u64 x3],.int .u64 (m:Int)] w λe w'=>e=.returned (.tuple #[fv s,.int .u64 (t:Int)])∧Below w.heap.size w w':=by
  intro w; rw [← fx]; exact ct w
 rw [fx,fc]
 clear fx fc fu fh hx hc hm hs hst ht hu hk huk d0 d1 d2 d3 eu ht1 hhi he ct hlo
 go_enter Tryz.func258,Tryz.ntmps258
 go_wp2_with fail
 refine (ct' _).mono ?_
 rintro e w1 ⟨rfl,hb⟩
 have BC:Blk w1 (w.heap.size+1) 280 _:=Gr.blk hb (Blk.alloc (blk_new2 w _ _ _) _)
 have BR:Blk w1 (w.heap.size+2) 280 _:=Gr.blk hb (blk_new3 w _ _ _ _)
 have hB:Below w.heap.size w w1:=Below.gr (below_alloc3 w _ _ _) hb
 have hsz:w.heap.size+3≤w1.heap.size:=by have:=hb.size; simp at this; omega
 clear hb ct'
 go_wp2_with (first | ((with_reducible refine here_store ?_); refine wpList_store_blk rfl _ _ _ rfl (w1.heap.size) (fcs (s)) rfl rfl _ _ (Blk.new w1 _ _) (by kernel_rfl) (by rfl) (fcs_one _) ?_; intro w2 hL2 hB2 hK2; have BR':=hK2 _ (by omega) _ _ (BR.alloc _); have BC':=hK2 _ (by omega) _ _ (BC.alloc _)) | ((with_reducible refine here_load (d:=some 18) ?_); refine wpList_load_fv rfl _ _ rfl (w1.heap.size) rfl (s) _ _ _ (hL2) (fv_fcs s) Tryz.underlying280 rfl (by kernel_rfl) ?_) | ((with_reducible refine here_load (d:=some 19) ?_); refine wpList_load_fv rfl _ _ rfl (w.heap.size+1) rfl (c) _ _ _ (BC') (FC.out) Tryz.underlying280 rfl (by kernel_rfl) ?_))
 have BR2:=BR'
 have BC2:=BC'
 refine (cp _).mono ?_
 rintro e w3 ⟨rfl,hb⟩
 have BR3:Blk w3 (w.heap.size+2) 280 _:=Gr.blk hb BR2
 have BT3:Blk w3 w1.heap.size 280 _:=Gr.blk hb hL2
 have hB3:Below w.heap.size w w3:=Below.gr ((hB.alloc (by omega) _).trans (hB2 _ (by omega))) hb
 clear hb cp
 go_wp2_with (first | ((with_reducible refine here_store ?_); refine wpList_store_blk rfl _ _ _ rfl (w1.heap.size) (fcs (u)) rfl rfl _ _ (BT3) (by kernel_rfl) (by rfl) (fcs_one _) ?_; intro w5 hL5 hB5 hK5; have BR5:=hK5 _ (by omega) _ _ BR3))
 have BT5:Blk w5 w1.heap.size 280 _:=hL5.eq_ (fcs_words FU.out)
 have lT:=BT5.lt
 have q0:w5.cell? ⟨w1.heap.size,0,none⟩=some (.int .u64 (u0:Int)):=BT5.cell 0
 have q1:w5.cell? ⟨w1.heap.size,1,none⟩=some (.int .u64 (u1:Int)):=BT5.cell 1
 have q2:w5.cell? ⟨w1.heap.size,2,none⟩=some (.int .u64 (u2:Int)):=BT5.cell 2
 have q3:w5.cell? ⟨w1.heap.size,3,none⟩=some (.int .u64 (u3:Int)):=BT5.cell 3
 have hw1:=M64.wrapN t1 ht1'
 refine wp_region_G (λj=>j == 13) (by kernel_rfl) ?_
 try simp only [Act.put]
 refine tk 0 rfl ?_
 try simp only [Act.put,aA,aZ,aS]
 refine tkw 1 rfl (YieldsG.pure (v:=.int .u64 (u0:Int)) (by rfl) (λw9 h9=>by have hz:=(Below.cell (p:=⟨w1.heap.size,0,none⟩) h9 lT).trans q0; go_simp; first | done | simp [hz])) ?_
 try simp only [Act.put,aA,aZ,aS]
 refine tk 2 rfl ?_
 try simp only [Act.put,aA,aZ,aS]
 refine tkw 3 rfl (YieldsG.pure (v:=.int .u64 (u1:Int)) (by rfl) (λw9 h9=>by have hz:=(Below.cell (p:=⟨w1.heap.size,1,none⟩) h9 lT).trans q1; go_simp; first | done | simp [hz])) ?_
 try simp only [Act.put,aA,aZ,aS]
 refine tk 4 rfl ?_
 try simp only [Act.put,aA,aZ,aS]
 refine tkw 5 rfl (YieldsG.pure (v:=.int .u64 (u2:Int)) (by rfl) (λw9 h9=>by have hz:=(Below.cell (p:=⟨w1.heap.size,2,none⟩) h9 lT).trans q2; go_simp; first | done | simp [hz])) ?_
 try simp only [Act.put,aA,aZ,aS]
 refine tk 6 rfl ?_
 try simp only [Act.put,aA,aZ,aS]
 refine tkw 7 rfl (YieldsG.pure (v:=.int .u64 (u3:Int)) (by rfl) (λw9 h9=>by have hz:=(Below.cell (p:=⟨w1.heap.size,3,none⟩) h9 lT).trans q3; go_simp; first | done | simp [hz])) ?_
 try simp only [Act.put,aA,aZ,aS]
 refine tk 8 rfl ?_
 try simp only [Act.put,aA,aZ,aS]
 refine tk 9 rfl ?_
 try simp only [Act.put,aA,aZ,aS]
 refine tkw 10 rfl (YieldsG.pure (v:=.int .u64 (t1:Int)) (by rfl) (λw9 h9=>by go_simp; first | done | simp [hw1])) ?_
 try simp only [Act.put,aA,aZ,aS]
 refine tk 11 rfl ?_
 try simp only [Act.put,aA,aZ,aS]
 refine tk 12 rfl ?_
 try simp only [Act.put,aA,aZ,aS]
 refine wpAnyG_store 13 rfl (by kernel_rfl) (by rfl) _ _ _ rfl (w.heap.size+2) (#[.int .u64 u1,.int .u64 u2,.int .u64 u3,.int .u64 t1]) rfl rfl _ _ (BR5) (by kernel_rfl) (by rfl) (by simp [Value.oneCell']) rfl (λw6 h6 w7 hB7 hL7=>?_)
 try simp only [Act.put]
 refine wpAnyG_done (by kernel_rfl) (λw8 h8=>?_)
 have hfin:=Gr.blk h8 hL7
 have hb9:=(hB3.trans (hB5 _ (by omega))).trans ((Below.mono h6 (by have:=hB3.size; have:=(hB5 0 (by omega)).size; omega)).trans ((hB7 _ (by omega)).trans (Below.mono h8 (by have:=hL7.lt; omega))))
 go_wp2
 exact bodyPost_ret (res_tmp_cell rfl _ _ (w.heap.size+2) _ _ _ _ rfl hfin rfl Tryz.underlying280 rfl (by kernel_rfl)) rfl ⟨by rw [FH.out]; rfl,hb9⟩
end
end
section
section
open Go.RowKit Go.Lib
def twice (w:World) (g h:Nat) (a b c d p q r s:Value):World:=((((((((w.setCell ⟨g,0,none⟩ a).setCell ⟨g,1,none⟩ b).setCell ⟨g,2,none⟩ c).setCell ⟨g,3,none⟩ d).setCell ⟨h,0,none⟩ p).setCell ⟨h,1,none⟩ q).setCell ⟨h,2,none⟩ r).setCell ⟨h,3,none⟩ s).drew
theorem two_far {w:World} {g h:Nat} {t t':TypeId} {a b c d p q r s:Value} (k:Blk w g t #[a,b,c,d]) (_:Blk w h t' #[p,q,r,s]) (n:g≠h):Blk (twice w g h a b c d p q r s) g t #[a,b,c,d] :=
 ((((((((k.set_ 0 a).set_ 1 b).set_ 2 c).set_ 3 d).far n p).far n q).far n r).far n s).drew
theorem two_near {w:World} {g h:Nat} {t t':TypeId} {a b c d p q r s:Value} (_:Blk w g t #[a,b,c,d]) (k:Blk w h t' #[p,q,r,s]) (n:g≠h):Blk (twice w g h a b c d p q r s) h t' #[p,q,r,s] :=
 ((((((((k.far (Ne.symm n) a).far (Ne.symm n) b).far (Ne.symm n) c).far (Ne.symm n) d).set_ 0 p).set_ 1 q).set_ 2 r).set_ 3 s).drew
theorem two_below {B:Nat} {v w:World} {g h:Nat} {a b c d p q r s:Value} (k:Below B v w) (hg:B≤g) (hh:B≤h):Below B v (twice w g h a b c d p q r s) :=
 ((((((((k.setCell hg a).setCell hg b).setCell hg c).setCell hg d).setCell hh p).setCell hh q).setCell hh r).setCell hh s).drew
theorem row_ex (x m c:Nat) (hx:x<(2^256)) (hm:m<18446744073709551616) (hc:c<(2^256)):∃ lo hi:Nat,lo<18446744073709551616∧hi<(2^256)∧lo+18446744073709551616*hi=x*m+c:=by
 have h:x*m≤115792089237316195423570985008687907853269984665640564039457584007913129639935*18446744073709551615:=Nat.mul_le_mul (by omega) (by omega)
 exact ⟨(x*m+c)%18446744073709551616,(x*m+c) / 18446744073709551616,by omega,by omega,by omega⟩
set_option maxHeartbeats 2000000 in
set_option maxRecDepth 100000 in
theorem product_at {v1 v2:Value} (w:World) (x y lo hi:Nat) (h1:fv x=v1) (h2:fv y=v2) (hx:x<(2^256)) (hy:y<(2^256)) (hlo:lo<(2^256)) (he:lo+(2^256)*hi=x*y) :
  Calls Tryz.prog 244 #[v1,v2] w λe w'=>e=.returned (.tuple #[fv lo,fv hi])∧Below w.heap.size w w':=by
 subst h1 h2
 obtain ⟨x0,x1,x2,x3,fx⟩:=words_fv x hx
 obtain ⟨y0,y1,y2,y3,b0,b1,b2,b3,ey,fy⟩:=words_of y hy
 obtain ⟨l0,g1,m0,n1,e0⟩:=row_ex x y0 0 hx b0 (by omega)
 obtain ⟨l1,g2,m1,n2,e1⟩:=row_ex x y1 g1 hx b1 n1
 obtain ⟨l2,g3,m2,n3,e2⟩:=row_ex x y2 g2 hx b2 n2
 obtain ⟨l3,g4,m3,n4,e3⟩:=row_ex x y3 g3 hx b3 n3
 have em:x*y=x*y0+18446744073709551616*(x*y1)+340282366920938463463374607431768211456*(x*y2)+6277101735386680763835789423207666416102355444464034512896*(x*y3):=by rw [ey,col_mul]
 have hL:l0+18446744073709551616*l1+340282366920938463463374607431768211456*l2+6277101735386680763835789423207666416102355444464034512896*l3=lo:=by omega
 obtain rfl:g4=hi:=by omega
 have fl:=fv_mk l0 l1 l2 l3 m0 m1 m2 m3
 rw [hL] at fl
 obtain ⟨z0,z1,z2,z3,fg⟩:=words_fv g4 n4
 have FG:=Lib.hid fg
 clear fg
 have FX:=Lib.hid fx
 have FL:=Lib.hid fl
 have r0:=λw=>row_at w x y0 0 l0 g1 fx rfl hx b0 (by omega) m0 e0
 have r1:=λw=>row_at (v1:=fv x) (v3:=fv g1) w x y1 g1 l1 g2 rfl rfl hx b1 n1 m1 e1
 have r2:=λw=>row_at (v1:=fv x) (v3:=fv g2) w x y2 g2 l2 g3 rfl rfl hx b2 n2 m2 e2
 have r3:=λw=>row_at (v1:=fv x) (v3:=fv g3) w x y3 g3 l3 g4 rfl rfl hx b3 n3 m3 e3
 rw [fv_0] at r0
 rw [fx,fy]
 clear fx fy fl hx hy hlo he b0 b1 b2 b3 ey m0 m1 m2 m3 n1 n2 n3 n4 e0 e1 e2 e3 em hL
 go_enter Tryz.func244,Tryz.ntmps244
 go_wp2_with fail
 refine (r0 _).mono ?_
 rintro e w1 ⟨rfl,hb⟩
 have BX:Blk w1 w.heap.size 280 _:=Gr.blk hb (Blk.alloc (Blk.alloc (Blk.alloc (Blk.new w _ _) _) _) _)
 have BY:Blk w1 (w.heap.size+1) 280 _:=Gr.blk hb (Blk.alloc (Blk.alloc (blk_new2 w _ _ _) _) _)
 have BL:Blk w1 (w.heap.size+2) 280 #[.int .u64 0,.int .u64 0,.int .u64 0,.int .u64 0]:=Gr.blk hb (Blk.alloc (blk_new3 w _ _ _ _) _)
 have BG:Blk w1 (w.heap.size+3) 280 _:=Gr.blk hb (blk_new4 w _ _ _ _ _)
 have hB:Below w.heap.size w w1:=Below.gr ((below_alloc3 w _ _ _).alloc (by simp <;> omega) _) hb
 clear hb r0
 have hlc:=BL.cell 0
 have hlf:=BL.frozen 0
 simp only [List.getElem?_toArray,List.getElem?_cons_zero] at hlc
 go_wp2_with (first | ((with_reducible refine here_store ?_); refine wpList_store_blk rfl _ _ _ rfl (w.heap.size+3) (fcs (g1)) rfl rfl _ _ (BG.far (by simp <;> omega) _) (by kernel_rfl) (by rfl) (fcs_one _) ?_; intro w2 hG0 hB0 hK0; have BX':=hK0 _ (by omega) _ _ (BX.far (by simp <;> omega) _); have BY':=hK0 _ (by omega) _ _ (BY.far (by simp <;> omega) _); have BL':Blk w2 (w.heap.size+2) 280 #[.int .u64 (l0:Int),.int .u64 0,.int .u64 0,.int .u64 0]:=hK0 _ (by omega) _ _ (BL.set_ 0 _); have hyc:w2.cell? ⟨w.heap.size+1,1,none⟩=some (.int .u64 (y1:Int)):=BY'.cell 1) | ((with_reducible refine here_load (d:=some 16) ?_); refine wpList_load_fv rfl _ _ rfl (w.heap.size) rfl (x) _ _ _ (BX') (FX.out) Tryz.underlying280 rfl (by kernel_rfl) ?_) | ((with_reducible refine here_load (d:=some 19) ?_); refine wpList_load_fv rfl _ _ rfl (w.heap.size+3) rfl (g1) _ _ _ (hG0) (fv_fcs g1) Tryz.underlying280 rfl (by kernel_rfl) ?_))
 refine (r1 _).mono ?_
 rintro e w3 ⟨rfl,hb⟩
 have hBn:Below w.heap.size w w3:=Below.gr ((hB.setCell (by show w.heap.size≤w.heap.size+1+1; omega) _).trans (hB0 _ (by omega))) hb
 have BXn:=Gr.blk hb BX'
 have BYn:=Gr.blk hb BY'
 have BLn:=Gr.blk hb BL'
 have BGn:=Gr.blk hb hG0
 clear hb r1 hlc hlf hyc BX BY BL BG hB BX' BY' BL' hG0 hB0 hK0
 have BX:=BXn
 have BY:=BYn
 have BL:=BLn
 have BG:=BGn
 have hB:=hBn
 clear BXn BYn BLn BGn hBn
 have hlc:=BL.cell 1
 have hlf:=BL.frozen 1
 simp only [List.getElem?_toArray,List.getElem?_cons_zero,List.getElem?_cons_succ] at hlc
 go_wp2_with (first | ((with_reducible refine here_store ?_); refine wpList_store_blk rfl _ _ _ rfl (w.heap.size+3) (fcs (g2)) rfl rfl _ _ (BG.far (by simp <;> omega) _) (by kernel_rfl) (by rfl) (fcs_one _) ?_; intro w4 hG1 hB1 hK1; have BX':=hK1 _ (by omega) _ _ (BX.far (by simp <;> omega) _); have BY':=hK1 _ (by omega) _ _ (BY.far (by simp <;> omega) _); have BL':Blk w4 (w.heap.size+2) 280 #[.int .u64 (l0:Int),.int .u64 (l1:Int),.int .u64 0,.int .u64 0]:=hK1 _ (by omega) _ _ (BL.set_ 1 _); have hyc:w4.cell? ⟨w.heap.size+1,2,none⟩=some (.int .u64 (y2:Int)):=BY'.cell 2) | ((with_reducible refine here_load (d:=some 25) ?_); refine wpList_load_fv rfl _ _ rfl (w.heap.size) rfl (x) _ _ _ (BX') (FX.out) Tryz.underlying280 rfl (by kernel_rfl) ?_) | ((with_reducible refine here_load (d:=some 28) ?_); refine wpList_load_fv rfl _ _ rfl (w.heap.size+3) rfl (g2) _ _ _ (hG1) (fv_fcs g2) Tryz.underlying280 rfl (by kernel_rfl) ?_))
 refine (r2 _).mono ?_
 rintro e w5 ⟨rfl,hb⟩
 have hBn:Below w.heap.size w w5:=Below.gr ((hB.setCell (by show w.heap.size≤w.heap.size+1+1; omega) _).trans (hB1 _ (by omega))) hb
 have BXn:=Gr.blk hb BX'
 have BYn:=Gr.blk hb BY'
 have BLn:=Gr.blk hb BL'
 have BGn:=Gr.blk hb hG1
 clear hb r2 hlc hlf hyc BX BY BL BG hB BX' BY' BL' hG1 hB1 hK1
 have BX:=BXn
 have BY:=BYn
 have BL:=BLn
 have BG:=BGn
 have hB:=hBn
 clear BXn BYn BLn BGn hBn
 have hlc:=BL.cell 2
 have hlf:=BL.frozen 2
 simp only [List.getElem?_toArray,List.getElem?_cons_zero,List.getElem?_cons_succ] at hlc
 go_wp2_with (first | ((with_reducible refine here_store ?_); refine wpList_store_blk rfl _ _ _ rfl (w.heap.size+3) (fcs (g3)) rfl rfl _ _ (BG.far (by simp <;> omega) _) (by kernel_rfl) (by rfl) (fcs_one _) ?_; intro w6 hG2 hB2 hK2; have BX':=hK2 _ (by omega) _ _ (BX.far (by simp <;> omega) _); have BY':=hK2 _ (by omega) _ _ (BY.far (by simp <;> omega) _); have BL':Blk w6 (w.heap.size+2) 280 #[.int .u64 (l0:Int),.int .u64 (l1:Int),.int .u64 (l2:Int),.int .u64 0]:=hK2 _ (by omega) _ _ (BL.set_ 2 _); have hyc:w6.cell? ⟨w.heap.size+1,3,none⟩=some (.int .u64 (y3:Int)):=BY'.cell 3) | ((with_reducible refine here_load (d:=some 34) ?_); refine wpList_load_fv rfl _ _ rfl (w.heap.size) rfl (x) _ _ _ (BX') (FX.out) Tryz.underlying280 rfl (by kernel_rfl) ?_) | ((with_reducible refine here_load (d:=some 37) ?_); refine wpList_load_fv rfl _ _ rfl (w.heap.size+3) rfl (g3) _ _ _ (hG2) (fv_fcs g3) Tryz.underlying280 rfl (by kernel_rfl) ?_))
 refine (r3 _).mono ?_
 rintro e w7 ⟨rfl,hb⟩
 have hBn:Below w.heap.size w w7:=Below.gr ((hB.setCell (by show w.heap.size≤w.heap.size+1+1; omega) _).trans (hB2 _ (by omega))) hb
 have BXn:=Gr.blk hb BX'
 have BYn:=Gr.blk hb BY'
 have BLn:=Gr.blk hb BL'
 have BGn:=Gr.blk hb hG2
 clear hb r3 hlc hlf hyc BX BY BL BG hB BX' BY' BL' hG2 hB2 hK2
 have BX:=BXn
 have BY:=BYn
 have BL:=BLn
 have BG:=BGn
 have hB:=hBn
 clear BXn BYn BLn BGn hBn
 have hlc:=BL.cell 3
 have hlf:=BL.frozen 3
 simp only [List.getElem?_toArray,List.getElem?_cons_zero,List.getElem?_cons_succ] at hlc
 go_wp2_with (first | ((with_reducible refine here_store ?_); refine wpList_store_blk rfl _ _ _ rfl (w.heap.size+3) (fcs (g4)) rfl rfl _ _ (BG.far (by simp <;> omega) _) (by kernel_rfl) (by rfl) (fcs_one _) ?_; intro w8 hG3 hB3 hK3; have BX':=hK3 _ (by omega) _ _ (BX.far (by simp <;> omega) _); have BY':=hK3 _ (by omega) _ _ (BY.far (by simp <;> omega) _); have BL':Blk w8 (w.heap.size+2) 280 #[.int .u64 (l0:Int),.int .u64 (l1:Int),.int .u64 (l2:Int),.int .u64 (l3:Int)]:=hK3 _ (by omega) _ _ (BL.set_ 3 _)))
 have hB8:Below w.heap.size w w8:=(hB.setCell (by show w.heap.size≤w.heap.size+1+1; omega) _).trans (hB3 _ (by omega))
 have BG8:Blk w8 (w.heap.size+3) 280 _:=hG3.eq_ (fcs_words FG.out)
 have q0:w8.cell? ⟨w.heap.size+1+1,0,none⟩=some (.int .u64 (l0:Int)):=BL'.cell 0
 have q1:w8.cell? ⟨w.heap.size+1+1,1,none⟩=some (.int .u64 (l1:Int)):=BL'.cell 1
 have q2:w8.cell? ⟨w.heap.size+1+1,2,none⟩=some (.int .u64 (l2:Int)):=BL'.cell 2
 have q3:w8.cell? ⟨w.heap.size+1+1,3,none⟩=some (.int .u64 (l3:Int)):=BL'.cell 3
 have p0:w8.cell? ⟨w.heap.size+1+1+1,0,none⟩=some (.int .u64 (z0:Int)):=BG8.cell 0
 have p1:w8.cell? ⟨w.heap.size+1+1+1,1,none⟩=some (.int .u64 (z1:Int)):=BG8.cell 1
 have p2:w8.cell? ⟨w.heap.size+1+1+1,2,none⟩=some (.int .u64 (z2:Int)):=BG8.cell 2
 have p3:w8.cell? ⟨w.heap.size+1+1+1,3,none⟩=some (.int .u64 (z3:Int)):=BG8.cell 3
 have fq:∀ i,w8.frozen? ⟨w.heap.size+1+1,i,none⟩=false:=λi=>BL'.frozen i
 have fp:∀ i,w8.frozen? ⟨w.heap.size+1+1+1,i,none⟩=false:=λi=>BG8.frozen i
 clear hlc hlf hK3 BX' BY' BX BY
 go_region
 all_goals
  go_wp2
  have f1:Blk _ (w.heap.size+2) 280 #[.int .u64 (l0:Int),.int .u64 (l1:Int),.int .u64 (l2:Int),.int .u64 (l3:Int)]:=two_far BL' BG8 (by omega)
  have f2:Blk _ (w.heap.size+3) 280 #[.int .u64 (z0:Int),.int .u64 (z1:Int),.int .u64 (z2:Int),.int .u64 (z3:Int)]:=two_near BL' BG8 (by omega)
  exact bodyPost_ret (res_two_cells rfl _ _ (w.heap.size+2) (w.heap.size+3) _ _ _ _ _ _ rfl f1 rfl f2 Tryz.underlying280 rfl (by kernel_rfl) Tryz.underlying280 rfl (by kernel_rfl)) rfl ⟨by rw [FL.out,FG.out],two_below hB8 (by omega) (by omega)⟩
end
end
section
section
open Go.RowKit Go.Lib
def addW (x y:Nat):Nat:=((x+y)%(2^256)+(x+y) / (2^256)*4294968273)%(2^256)+((x+y)%(2^256)+(x+y) / (2^256)*4294968273) / (2^256)*4294968273
theorem addW_lt (x y:Nat) (hx:x<(2^256)) (hy:y<(2^256)):addW x y<(2^256):=by unfold addW; omega
theorem addW_is (x y s k u j:Nat) (hs:s<(2^256)) (he:s+(2^256)*k=x+y) (hu:u<(2^256)) (hf:u+(2^256)*j=s+k*4294968273):addW x y=u+j*4294968273:=by
 have e1:(x+y)%(2^256)=s:=by omega
 have e2:(x+y) / (2^256)=k:=by omega
 unfold addW
 rw [e1,e2]
 have e3:(s+k*4294968273)%(2^256)=u:=by omega
 have e4:(s+k*4294968273) / (2^256)=j:=by omega
 rw [e3,e4]
theorem addW_mod (x y:Nat):addW x y%pM=(x+y)%pM:=by
 refine mod_of_mult (k:=(x+y) / (2^256)+((x+y)%(2^256)+(x+y) / (2^256)*4294968273) / (2^256)) ?_
 unfold addW
 omega
theorem add_def (w:World) (x y:Nat) (hx:x<(2^256)) (hy:y<(2^256)):Calls Tryz.prog 246 #[fv x,fv y] w λe w'=>e=.returned (fv (addW x y))∧Below w.heap.size w w' :=
 (add_any w x y hx hy).mono λ_ _ ⟨⟨_,s,k,u,j,hs,he,hu,hf,hz,e⟩,hb⟩=>⟨by rw [e,hz,addW_is x y s k u j hs he hu hf],hb⟩
theorem norm_any (w:World) (x:Nat) (hx:x<(2^256)):Calls Tryz.prog 215 #[fv x] w λe w'=>e=.returned (fv (x%pM))∧Below w.heap.size w w':=by
 obtain ⟨x0,x1,x2,x3,fx⟩:=words_fv x hx
 have FX:=Lib.hid fx
 have HX:=Lib.hid hx
 rw [fx]
 clear fx hx
 go_enter Tryz.func215,Tryz.ntmps215
 go_wp2_with fail
 refine (split_at x FX.out _).mono ?_
 rintro e w1 ⟨rfl,hb1⟩
 go_wp2_with fail
 refine (reduce_any _ x HX.out).mono ?_
 rintro e w2 ⟨rfl,hb2⟩
 go_wp2_with fail
 refine (number_any _ _).mono ?_
 rintro e w3 ⟨rfl,hb3⟩
 have hg:=Below.gr (Below.gr (Below.gr (w:=w) (below_alloc2 w _ _) hb1) hb2) hb3
 have hR:Blk w3 (w.heap.size+1) 46 _:=Gr.blk hb3 (Gr.blk hb2 (Gr.blk hb1 (blk_new2 w _ _ _)))
 go_wp2_with (first | ((with_reducible refine here_store ?_); refine wpList_store_blk rfl _ _ _ rfl (w.heap.size+1) (fcs (x%pM)) rfl rfl _ _ (hR) (by kernel_rfl) (by rfl) (fcs_one _) ?_; intro w4 hL hB4 hK4))
 exact bodyPost_ret (results_cell_row rfl _ _ (w.heap.size+1) _ _ (0,0) _ rfl hL Tryz.underlying46 rfl (by kernel_rfl)) rfl ⟨rfl,hg.trans (hB4 _ (by omega))⟩
theorem of_any (w:World) (n:Nat) (hn:n<18446744073709551616):Calls Tryz.prog 227 #[.int .u64 (n:Int)] w λe w'=>e=.returned (fv n)∧Below w.heap.size w w':=by
 have e:fv n=.agg #[.int .u64 (n:Int),.int .u64 0,.int .u64 0,.int .u64 0]:=by
  have h:=fv_mk n 0 0 0 hn (by omega) (by omega) (by omega)
  exact h.symm
 rw [e]
 go_enter Tryz.func227,Tryz.ntmps227
 go_wp2
 exact bodyPost_ret (results_cell_row rfl _ _ w.heap.size _ _ (0,0) _ rfl (heap_alloc_new w _) Tryz.underlying46 rfl (by kernel_rfl)) rfl ⟨rfl,(Below.refl _ _).alloc (Nat.le_refl _) _⟩
set_option maxHeartbeats 1000000 in
set_option maxRecDepth 100000 in
theorem addF_any (w:World) (x y:Nat) (hx:x<(2^256)) (hy:y<(2^256)):Calls Tryz.prog 230 #[fv x,fv y] w λe w'=>e=.returned (fv (addP x y))∧Below w.heap.size w w':=by
 obtain ⟨v,hv⟩:∃ v,v=addW x y:=⟨_,rfl⟩
 obtain ⟨z,hz⟩:∃ z,z=v%pM:=⟨_,rfl⟩
 have HZ:=Lib.hid (And.intro hv hz)
 have hlt:=Lib.hid (hv ▸ addW_lt x y hx hy:v<(2^256))
 rw [show addP x y=z by rw [hz,hv,addW_mod]; rfl]
 clear hz hv
 have HX:=Lib.hid hx
 have HY:=Lib.hid hy
 obtain ⟨x0,x1,x2,x3,fx⟩:=words_fv x hx
 obtain ⟨y0,y1,y2,y3,fy⟩:=words_fv y hy
 have FX:=Lib.hid fx
 have FY:=Lib.hid fy
 rw [fx,fy]
 clear fx fy hx hy
 go_enter Tryz.func230,Tryz.ntmps230
 go_wp2
 refine wp_region_G (λj=>j == 7) (by kernel_rfl) ?_
 try simp only [Act.put]
 refine tkw 0 rfl (YieldsG.loadF (by rfl) _ _ rfl (w.heap.size) rfl (x) _ _ (((Blk.new w _ _).alloc _).alloc _) (FX.out) Tryz.underlying46 rfl (by kernel_rfl)) ?_
 try simp only [Act.put,aA,aZ,aS]
 refine tkw 1 rfl (YieldsG.call (v:=fv x) (by rfl) 242 _ (λw9=>by go_simp; try (first | with_reducible rfl | rfl)) (λw9 h9=>split_any w9 x)) ?_
 try simp only [Act.put,aA,aZ,aS]
 refine tkw 2 rfl (YieldsG.loadF (by rfl) _ _ rfl (w.heap.size+1) rfl (y) _ _ ((blk_new2 w _ _ _).alloc _) (FY.out) Tryz.underlying46 rfl (by kernel_rfl)) ?_
 try simp only [Act.put,aA,aZ,aS]
 refine tkw 3 rfl (YieldsG.call (v:=fv y) (by rfl) 242 _ (λw9=>by go_simp; try (first | with_reducible rfl | rfl)) (λw9 h9=>split_any w9 y)) ?_
 try simp only [Act.put,aA,aZ,aS]
 refine tkw 4 rfl (YieldsG.call (v:=fv v) (by rfl) 246 _ (λw9=>by go_simp; try (first | with_reducible rfl | rfl)) (λw9 h9=>HZ.out.1 ▸ add_def w9 x y HX.out HY.out)) ?_
 try simp only [Act.put,aA,aZ,aS]
 refine tkw 5 rfl (YieldsG.call (v:=fv z) (by rfl) 241 _ (λw9=>by go_simp; try (first | with_reducible rfl | rfl)) (λw9 h9=>HZ.out.2 ▸ reduce_any w9 _ hlt.out)) ?_
 try simp only [Act.put,aA,aZ,aS]
 refine tkw 6 rfl (YieldsG.call (v:=fv z) (by rfl) 243 _ (λw9=>by go_simp; try (first | with_reducible rfl | rfl)) (λw9 h9=>number_any w9 _)) ?_
 try simp only [Act.put,aA,aZ,aS]
 refine wpAnyG_store 7 rfl (by kernel_rfl) (by rfl) _ _ _ rfl (w.heap.size+2) (fcs (z)) rfl rfl _ _ (blk_new3 w _ _ _ _) (by kernel_rfl) (by rfl) (fcs_one _) rfl (λw6 h6 w7 hB7 hL7=>?_)
 try simp only [Act.put]
 refine wpAnyG_done (by kernel_rfl) (λw8 h8=>?_)
 have hfin:=Gr.blk h8 hL7
 have hb9:=(Below.gr (below_alloc3 w _ _ _) h6).trans ((hB7 _ (by omega)).trans (Below.mono h8 (by have:=hL7.lt; omega)))
 go_wp2
 exact bodyPost_ret (results_cell_row rfl _ _ (w.heap.size+2) _ _ (0,0) _ rfl hfin Tryz.underlying46 rfl (by kernel_rfl)) rfl ⟨rfl,hb9⟩
end
end
section
section
open Go.RowKit Go.Lib
theorem minus_fv (w:World) (x y s k:Nat) (hx:x<(2^256)) (hy:y<(2^256)) (hs:s<(2^256)) (he:s+y=x+(2^256)*k) :
  Calls Tryz.prog 240 #[fv x,fv y] w λe w'=>e=.returned (.tuple #[fv s,.int .u64 (k:Int)])∧Below w.heap.size w w':=minus_at w x y s k rfl rfl hx hy hs he
theorem product_fv (w:World) (x y lo hi:Nat) (hx:x<(2^256)) (hy:y<(2^256)) (hlo:lo<(2^256)) (he:lo+(2^256)*hi=x*y) :
  Calls Tryz.prog 244 #[fv x,fv y] w λe w'=>e=.returned (.tuple #[fv lo,fv hi])∧Below w.heap.size w w':=product_at w x y lo hi rfl rfl hx hy hlo he
set_option maxHeartbeats 1000000 in
set_option maxRecDepth 100000 in
theorem subF_any (w:World) (x y:Nat) (hx:x<(2^256)) (hy:y<(2^256)):Calls Tryz.prog 205 #[fv x,fv y] w λe w'=>e=.returned (fv (subP x y))∧Below w.heap.size w w':=by
 obtain ⟨p,hp⟩:∃ p,p=x%pM:=⟨_,rfl⟩
 obtain ⟨q,hq⟩:∃ q,q=y%pM:=⟨_,rfl⟩
 have hpl:p<(2^256):=by rw [hp]; exact mod_lt x
 have hql:q<(2^256):=by rw [hq]; exact mod_lt y
 have hpp:p<115792089237316195423570985008687907853269984665640564039457584007908834671663:=by rw [hp]; exact mod_lt_p x
 have hqp:q<115792089237316195423570985008687907853269984665640564039457584007908834671663:=by rw [hq]; exact mod_lt_p y
 obtain ⟨z,hz⟩:∃ z,z=subP x y:=⟨_,rfl⟩
 have hzs:z=if q≤p then p - q else p+115792089237316195423570985008687907853269984665640564039457584007908834671663 - q:=by rw [hz,sub_words, ← hp, ← hq]
 obtain ⟨s,k,hk,hs,he,hzk⟩:∃ s k:Nat,k≤1∧s<(2^256)∧s+q=p+(2^256)*k∧z+k*4294968273=s+(2^256)*0:=by
  by_cases h:q≤p
  ·rw [if_pos h] at hzs; exact ⟨p - q,0,by omega,by omega,by omega,by omega⟩
  ·rw [if_neg h] at hzs; exact ⟨p+(2^256) - q,1,by omega,by omega,by omega,by omega⟩
 obtain ⟨j,hj⟩:∃ j,j=k*4294968273:=⟨_,rfl⟩
 have hJ:(k:Int)*4294968273=(j:Int):=by omega
 have hjl:j<18446744073709551616:=by omega
 have hzl:z<(2^256):=by omega
 have cm:=λw=>minus_at w s j z 0 (v1:=fv s) rfl (fv_small j hjl) hs (by omega) hzl (by rw [hj]; exact hzk)
 have HP:=Lib.hid (And.intro hp hq)
 have HS:=Lib.hid (And.intro hpl (And.intro hql (And.intro hs he)))
 obtain ⟨x0,x1,x2,x3,fx⟩:=words_fv x hx
 obtain ⟨y0,y1,y2,y3,fy⟩:=words_fv y hy
 have FX:=Lib.hid fx
 have FY:=Lib.hid fy
 have HX:=Lib.hid hx
 have HY:=Lib.hid hy
 rw [fx,fy, ← hz]
 clear fx fy hx hy hp hq hpl hql hpp hqp hz hzs hk hs he hzk hj hzl
 go_enter Tryz.func205,Tryz.ntmps205
 go_wp2
 refine wp_region_G (λj=>j == 11) (by kernel_rfl) ?_
 try simp only [Act.put]
 refine tkw 0 rfl (YieldsG.loadF (by rfl) _ _ rfl (w.heap.size) rfl (x) _ _ (((Blk.new w _ _).alloc _).alloc _) (FX.out) Tryz.underlying46 rfl (by kernel_rfl)) ?_
 try simp only [Act.put,aA,aZ,aS]
 refine tkw 1 rfl (YieldsG.call (v:=fv x) (by rfl) 242 _ (λw9=>by go_simp; try (first | with_reducible rfl | rfl)) (λw9 h9=>split_any w9 x)) ?_
 try simp only [Act.put,aA,aZ,aS]
 refine tkw 2 rfl (YieldsG.call (v:=fv p) (by rfl) 241 _ (λw9=>by go_simp; try (first | with_reducible rfl | rfl)) (λw9 h9=>HP.out.1 ▸ reduce_any w9 _ HX.out)) ?_
 try simp only [Act.put,aA,aZ,aS]
 refine tkw 3 rfl (YieldsG.loadF (by rfl) _ _ rfl (w.heap.size+1) rfl (y) _ _ ((blk_new2 w _ _ _).alloc _) (FY.out) Tryz.underlying46 rfl (by kernel_rfl)) ?_
 try simp only [Act.put,aA,aZ,aS]
 refine tkw 4 rfl (YieldsG.call (v:=fv y) (by rfl) 242 _ (λw9=>by go_simp; try (first | with_reducible rfl | rfl)) (λw9 h9=>split_any w9 y)) ?_
 try simp only [Act.put,aA,aZ,aS]
 refine tkw 5 rfl (YieldsG.call (v:=fv q) (by rfl) 241 _ (λw9=>by go_simp; try (first | with_reducible rfl | rfl)) (λw9 h9=>HP.out.2 ▸ reduce_any w9 _ HY.out)) ?_
 try simp only [Act.put,aA,aZ,aS]
 refine tkw 6 rfl (YieldsG.call (v:=.tuple #[fv s,.int .u64 (k:Int)]) (by rfl) 240 _ (λw9=>by go_simp; try (first | with_reducible rfl | rfl)) (λw9 h9=>minus_fv w9 p q s k HS.out.1 HS.out.2.1 HS.out.2.2.1 HS.out.2.2.2)) ?_
 try simp only [Act.put,aA,aZ,aS]
 refine tk 7 rfl ?_
 try simp only [Act.put,aA,aZ,aS]
 refine tk 8 rfl ?_
 try simp only [Act.put,aA,aZ,aS]
 refine wpAnyG_takeA 9 rfl (by kernel_rfl) (λ_ _ _ h=>h) (λ_=>YieldsG.pure (by rfl) (λw9 _=>by go_simp; try with_reducible rfl)) ?_
 try simp only [Act.put,aA,aZ,aS]
 refine wpAnyG_sole 10 rfl (by kernel_rfl) (by rfl) (λw3 h3 K hK=>?_)
 go_simp
 refine hK _ _ (λ_=>gr_alloc _ _) ?_
 clear hK K
 try simp only [Act.put,aA,aZ,aS]
 refine wpAnyG_store 11 rfl (by kernel_rfl) (by rfl) _ _ _ rfl (w3.heap.size) (fcs (s)) rfl rfl _ _ (Blk.new w3 _ _) (by kernel_rfl) (by rfl) (fcs_one _) rfl (λw6 h6 w7 hB7 hL7=>?_)
 try simp only [Act.put]
 refine wpAnyG_takeA 12 rfl (by kernel_rfl) (λ_ _ _ h=>h) (λ_=>YieldsG.pure (by rfl) (λw9 _=>by go_simp; try with_reducible rfl)) ?_
 try simp only [Act.put,aA,aZ,aS]
 refine wpAnyG_done (by kernel_rfl) (λw8 h8=>?_)
 have hL8:=Gr.blk h8 hL7
 have BR8:Blk w8 (w.heap.size+2) 46 _:=Gr.blk h8 (Blk.below (B:=w3.heap.size) (Gr.blk h6 (Blk.alloc (Gr.blk h3 (blk_new3 w _ _ _ _)) _)) (hB7 _ (Nat.le_refl _)) (by have:=h3.size; simp at this; omega))
 have hsz:w.heap.size+3≤w3.heap.size:=by have:=h3.size; simp at this; omega
 have hb9:Below w.heap.size w w8:=Below.gr ((Below.gr ((Below.gr (below_alloc3 w _ _ _) h3).alloc (by omega) _) h6).trans (hB7 _ (by omega))) h8
 clear h3 h6 hB7 hL7 h8
 go_wp2_with (first | ((with_reducible refine here_load (d:=some 18) ?_); refine wpList_load_fv rfl _ _ rfl (w3.heap.size) rfl (s) _ _ _ (hL8) (fv_fcs s) Tryz.underlying280 rfl (by kernel_rfl) ?_))
 refine (cm _).mono ?_
 rintro e w9 ⟨rfl,hb⟩
 have BR9:=Gr.blk hb BR8
 have BT9:=Gr.blk hb hL8
 have hBn:=Below.gr hb9 hb
 clear hb hb9 BR8 hL8 cm
 go_wp2_with (first | ((with_reducible refine here_store ?_); refine wpList_store_blk rfl _ _ _ rfl (w3.heap.size) (fcs (z)) rfl rfl _ _ (BT9) (by kernel_rfl) (by rfl) (fcs_one _) ?_; intro w10 hL10 hB10 hK10; have BR10:=hK10 _ (by omega) _ _ BR9) | ((with_reducible refine here_load (d:=some 25) ?_); refine wpList_load_fv rfl _ _ rfl (w3.heap.size) rfl (z) _ _ _ (hL10) (fv_fcs z) Tryz.underlying280 rfl (by kernel_rfl) ?_))
 refine (number_any _ _).mono ?_
 rintro e w11 ⟨rfl,hb⟩
 have BR11:=Gr.blk hb BR10
 have hBm:=Below.gr (hBn.trans (hB10 _ (by omega))) hb
 go_wp2_with (first | ((with_reducible refine here_store ?_); refine wpList_store_blk rfl _ _ _ rfl (w.heap.size+2) (fcs (z)) rfl rfl _ _ (BR11) (by kernel_rfl) (by rfl) (fcs_one _) ?_; intro w12 hL12 hB12 hK12))
 exact bodyPost_ret (results_cell_row rfl _ _ (w.heap.size+2) _ _ (0,0) _ rfl hL12 Tryz.underlying46 rfl (by kernel_rfl)) rfl ⟨rfl,hBm.trans (hB12 _ (by omega))⟩
theorem mul_split (x y:Nat) (hx:x<(2^256)) (hy:y<(2^256)):∃ lo hi f t b c g:Nat,lo<(2^256)∧hi<(2^256)∧lo+(2^256)*hi=x*y∧f<(2^256)∧f+(2^256)*t=hi*4294968273∧t<18446744073709551616∧b<18446744073709551616∧c<18446744073709551616∧b+18446744073709551616*c=t*4294968273∧g=b+18446744073709551616*c∧g<(2^256)∧(lo+f+g)%pM=mulP x y:=by
 have h:x*y≤115792089237316195423570985008687907853269984665640564039457584007913129639935*115792089237316195423570985008687907853269984665640564039457584007913129639935:=Nat.mul_le_mul (by omega) (by omega)
 refine ⟨x*y%(2^256),x*y / (2^256),x*y / (2^256)*4294968273%(2^256),x*y / (2^256)*4294968273 / (2^256),x*y / (2^256)*4294968273 / (2^256)*4294968273%18446744073709551616,x*y / (2^256)*4294968273 / (2^256)*4294968273 / 18446744073709551616,x*y / (2^256)*4294968273 / (2^256)*4294968273,by omega,by omega,by omega,by omega,by omega,by omega,by omega,by omega,by omega,by omega,by omega,?_⟩
 unfold mulP
 refine mod_of_mult (k:=x*y / (2^256)+x*y / (2^256)*4294968273 / (2^256)) ?_
 generalize x*y=m at *
 omega
set_option maxHeartbeats 1000000 in
set_option maxRecDepth 100000 in
theorem mulF_any (w:World) (x y:Nat) (hx:x<(2^256)) (hy:y<(2^256)):Calls Tryz.prog 206 #[fv x,fv y] w λe w'=>e=.returned (fv (mulP x y))∧Below w.heap.size w w':=by
 obtain ⟨lo,hi,f,t,b,c,g,hlo,hhi,he,hf,hft,ht,hb,hc,hbc,hg,hgl,hfin⟩:=mul_split x y hx hy
 obtain ⟨a,ha⟩:∃ a,a=addW lo f:=⟨_,rfl⟩
 obtain ⟨v,hv⟩:∃ v,v=addW a g:=⟨_,rfl⟩
 obtain ⟨z,hz⟩:∃ z,z=mulP x y:=⟨_,rfl⟩
 have hal:a<(2^256):=by rw [ha]; exact addW_lt _ _ hlo hf
 have hvl:v<(2^256):=by rw [hv]; exact addW_lt _ _ hal hgl
 have hvz:v%pM=z:=by
  rw [hz, ← hfin,hv,addW_mod, ← Nat.mod_add_mod,ha,addW_mod,Nat.mod_add_mod]
 have ct:∀ w,Calls Tryz.prog 245 #[fv hi,.int .u64 4294968273] w λe w'=>e=.returned (.tuple #[fv f,.int .u64 (t:Int)])∧Below w.heap.size w w':=λw=>times_at (v:=fv hi) w hi 4294968273 f t rfl hhi (by omega) hf hft
 have cm:∀ w,Calls Tryz.prog 182 #[.int .u64 (t:Int),.int .u64 4294968273] w λe w'=>e=.returned (.tuple #[.int .u64 (c:Int),.int .u64 (b:Int)])∧w'=w:=λw=>mul64_at w t 4294968273 c b ht (by omega) hb hbc
 have ca:=λw=>ha ▸ add_def w lo f hlo hf
 have hgf:fv g=.agg #[.int .u64 (b:Int),.int .u64 (c:Int),.int .u64 0,.int .u64 0]:=by
  have h:Value.agg #[.int .u64 (b:Int),.int .u64 (c:Int),.int .u64 0,.int .u64 0]=fv (b+18446744073709551616*c+340282366920938463463374607431768211456*0+6277101735386680763835789423207666416102355444464034512896*0):=fv_mk b c 0 0 hb hc (by omega) (by omega)
  exact (h.trans (congrArg fv (by omega))).symm
 have cb:∀ w,Calls Tryz.prog 246 #[fv a,.agg #[.int .u64 (b:Int),.int .u64 (c:Int),.int .u64 0,.int .u64 0]] w λe w'=>e=.returned (fv v)∧Below w.heap.size w w':=by
  intro w; rw [← hgf,hv]; exact add_def w a g hal hgl
 have cr:∀ w,Calls Tryz.prog 241 #[fv v] w λe w'=>e=.returned (fv z)∧Below w.heap.size w w':=by
  intro w; rw [← hvz]; exact reduce_any w v hvl
 have HP:=Lib.hid (And.intro hlo he)
 obtain ⟨x0,x1,x2,x3,fx⟩:=words_fv x hx
 obtain ⟨y0,y1,y2,y3,fy⟩:=words_fv y hy
 have FX:=Lib.hid fx
 have FY:=Lib.hid fy
 have HX:=Lib.hid (And.intro hx hy)
 rw [fx,fy, ← hz]
 clear fx fy hx hy hlo hhi he hf hft ht hb hc hbc hg hgl hfin ha hv hz hal hvl hvz hgf
 go_enter Tryz.func206,Tryz.ntmps206
 go_wp2
 refine wp_region_G (λj=>j == 10 || j == 11) (by kernel_rfl) ?_
 try simp only [Act.put]
 refine tkw 0 rfl (YieldsG.loadF (by rfl) _ _ rfl (w.heap.size) rfl (x) _ _ (((Blk.new w _ _).alloc _).alloc _) (FX.out) Tryz.underlying46 rfl (by kernel_rfl)) ?_
 try simp only [Act.put,aA,aZ,aS]
 refine tkw 1 rfl (YieldsG.call (v:=fv x) (by rfl) 242 _ (λw9=>by go_simp; try (first | with_reducible rfl | rfl)) (λw9 h9=>split_any w9 x)) ?_
 try simp only [Act.put,aA,aZ,aS]
 refine tkw 2 rfl (YieldsG.loadF (by rfl) _ _ rfl (w.heap.size+1) rfl (y) _ _ ((blk_new2 w _ _ _).alloc _) (FY.out) Tryz.underlying46 rfl (by kernel_rfl)) ?_
 try simp only [Act.put,aA,aZ,aS]
 refine tkw 3 rfl (YieldsG.call (v:=fv y) (by rfl) 242 _ (λw9=>by go_simp; try (first | with_reducible rfl | rfl)) (λw9 h9=>split_any w9 y)) ?_
 try simp only [Act.put,aA,aZ,aS]
 refine tkw 4 rfl (YieldsG.call (v:=.tuple #[fv lo,fv hi]) (by rfl) 244 _ (λw9=>by go_simp; try (first | with_reducible rfl | rfl)) (λw9 h9=>product_fv w9 x y lo hi HX.out.1 HX.out.2 HP.out.1 HP.out.2)) ?_
 try simp only [Act.put,aA,aZ,aS]
 refine tk 5 rfl ?_
 try simp only [Act.put,aA,aZ,aS]
 refine tk 6 rfl ?_
 try simp only [Act.put,aA,aZ,aS]
 refine wpAnyG_takeA 7 rfl (by kernel_rfl) (λ_ _ _ h=>h) (λ_=>YieldsG.pure (by rfl) (λw9 _=>by go_simp; try with_reducible rfl)) ?_
 try simp only [Act.put,aA,aZ,aS]
 refine wpAnyG_duo 8 9 rfl rfl (by kernel_rfl) (by rfl) (by rfl) (λw3 h3 K hK=>?_) (λw3 h3 K hK=>?_)
 ·go_simp
  refine hK _ _ (λ_=>gr_alloc _ _) ?_
  clear hK K
  try simp only [Act.put,aA,aZ,aS]
  refine wpAnyG_sole 9 rfl (by kernel_rfl) (by rfl) (λw4 h4 K hK=>?_)
  go_simp
  refine hK _ _ (λ_=>gr_alloc _ _) ?_
  clear hK K
  try simp only [Act.put,aA,aZ,aS]
  refine wpAnyG_storeK 10 rfl (by kernel_rfl) (by rfl) _ _ _ rfl (w3.heap.size) (fcs (lo)) rfl rfl _ _ (Gr.blk h4 (Blk.new w3 _ _) |>.alloc _) (by kernel_rfl) (by rfl) (fcs_one _) rfl (λw6 h6 w7 hB7 hK7 hL7=>?_)
  try simp only [Act.put]
  have hs4:w3.heap.size+1≤w4.heap.size:=by have:=h4.size; simp at this; omega
  have hs3:w.heap.size+3≤w3.heap.size:=by have:=h3.size; simp at this; omega
  have B6:Blk w7 w4.heap.size 280 _:=hK7 _ (by omega) _ _ (Gr.blk h6 (Blk.new w4 _ _))
  have BR7:Blk w7 (w.heap.size+2) 46 _:=hK7 _ (by omega) _ _ (Gr.blk h6 (Blk.alloc (Gr.blk h4 (Blk.alloc (Gr.blk h3 (blk_new3 w _ _ _ _)) _)) _))
  have hb7:Below w.heap.size w w7:=(Below.gr ((Below.gr ((Below.gr (below_alloc3 w _ _ _) h3).alloc (by omega) _) h4).alloc (by omega) _) h6).trans (hB7 _ (by omega))
  refine wpAnyG_storeK 11 rfl (by kernel_rfl) (by rfl) _ _ _ rfl (w4.heap.size) (fcs (hi)) rfl rfl _ _ (B6) (by kernel_rfl) (by rfl) (fcs_one _) rfl (λw6 h7 w8 hB8 hK8 hL8=>?_)
  try simp only [Act.put]
  refine wpAnyG_done (by kernel_rfl) (λw9 h9=>?_)
  have B5:Blk w9 w3.heap.size 280 _:=Gr.blk h9 (hK8 _ (by omega) _ _ (Gr.blk h7 hL7))
  have B6:=Gr.blk h9 hL8
  have BR9:Blk w9 (w.heap.size+2) 46 _:=Gr.blk h9 (hK8 _ (by omega) _ _ (Gr.blk h7 BR7))
  have hb9:Below w.heap.size w w9:=Below.gr ((Below.gr hb7 h7).trans (hB8 _ (by omega))) h9
  have hsz9:w4.heap.size+1≤w9.heap.size:=by have h1:=B5.lt; have h2:=B6.lt; omega
  clear h3 h4 h6 h7 h9 hB7 hB8 hK7 hK8 hL7 hL8 BR7 hb7
  go_wp2_with (first | ((with_reducible refine here_load (d:=some 20) ?_); refine wpList_load_fv rfl _ _ rfl (w4.heap.size) rfl (hi) _ _ _ (B6) (fv_fcs hi) Tryz.underlying280 rfl (by kernel_rfl) ?_))
  refine (ct _).mono ?_
  rintro e w10 ⟨rfl,hb⟩
  have B5:=Gr.blk hb B5
  have BR:=Gr.blk hb BR9
  have hBn:=Below.gr hb9 hb
  have hsz10:w4.heap.size+1≤w10.heap.size:=by have:=hb.size; omega
  clear hb hb9 BR9 B6 ct
  go_wp2_with (first | ((with_reducible refine here_store ?_); refine wpList_store_blk rfl _ _ _ rfl (w10.heap.size) (fcs (f)) rfl rfl _ _ (Blk.new w10 _ _) (by kernel_rfl) (by rfl) (fcs_one _) ?_; intro w11 hL11 hB11 hK11; have B5':=hK11 _ (by omega) _ _ (B5.alloc _); have BR':=hK11 _ (by omega) _ _ (BR.alloc _)))
  refine (cm _).mono ?_
  rintro e w12 ⟨rfl,rfl⟩
  go_wp2_with (first | ((with_reducible refine here_load (d:=some 29) ?_); refine wpList_load_fv rfl _ _ rfl (w3.heap.size) rfl (lo) _ _ _ (B5') (fv_fcs lo) Tryz.underlying280 rfl (by kernel_rfl) ?_) | ((with_reducible refine here_load (d:=some 30) ?_); refine wpList_load_fv rfl _ _ rfl (w10.heap.size) rfl (f) _ _ _ (hL11) (fv_fcs f) Tryz.underlying280 rfl (by kernel_rfl) ?_))
  refine (ca _).mono ?_
  rintro e w13 ⟨rfl,hb13⟩
  go_wp2_with fail
  refine (cb _).mono ?_
  rintro e w14 ⟨rfl,hb14⟩
  go_wp2_with fail
  refine (cr _).mono ?_
  rintro e w15 ⟨rfl,hb15⟩
  go_wp2_with fail
  refine (number_any _ _).mono ?_
  rintro e w16 ⟨rfl,hb16⟩
  have BR16:=Gr.blk hb16 (Gr.blk hb15 (Gr.blk hb14 (Gr.blk hb13 BR')))
  have hB16:=Below.gr (Below.gr (Below.gr (Below.gr ((hBn.alloc (by omega) _).trans (hB11 _ (by omega))) hb13) hb14) hb15) hb16
  clear hb13 hb14 hb15 hb16
  go_wp2_with (first | ((with_reducible refine here_store ?_); refine wpList_store_blk rfl _ _ _ rfl (w.heap.size+2) (fcs (z)) rfl rfl _ _ (BR16) (by kernel_rfl) (by rfl) (fcs_one _) ?_; intro w17 hL17 hB17 hK17))
  exact bodyPost_ret (results_cell_row rfl _ _ (w.heap.size+2) _ _ (0,0) _ rfl hL17 Tryz.underlying46 rfl (by kernel_rfl)) rfl ⟨rfl,hB16.trans (hB17 _ (by omega))⟩
 ·go_simp
  refine hK _ _ (λ_=>gr_alloc _ _) ?_
  clear hK K
  try simp only [Act.put,aA,aZ,aS]
  refine wpAnyG_sole 8 rfl (by kernel_rfl) (by rfl) (λw4 h4 K hK=>?_)
  go_simp
  refine hK _ _ (λ_=>gr_alloc _ _) ?_
  clear hK K
  try simp only [Act.put,aA,aZ,aS]
  refine wpAnyG_storeK 10 rfl (by kernel_rfl) (by rfl) _ _ _ rfl (w4.heap.size) (fcs (lo)) rfl rfl _ _ (Blk.new w4 _ _) (by kernel_rfl) (by rfl) (fcs_one _) rfl (λw6 h6 w7 hB7 hK7 hL7=>?_)
  try simp only [Act.put]
  have hs4:w3.heap.size+1≤w4.heap.size:=by have:=h4.size; simp at this; omega
  have hs3:w.heap.size+3≤w3.heap.size:=by have:=h3.size; simp at this; omega
  have B6:Blk w7 w3.heap.size 280 _:=hK7 _ (by omega) _ _ (Gr.blk h6 (Gr.blk h4 (Blk.new w3 _ _) |>.alloc _))
  have BR7:Blk w7 (w.heap.size+2) 46 _:=hK7 _ (by omega) _ _ (Gr.blk h6 (Blk.alloc (Gr.blk h4 (Blk.alloc (Gr.blk h3 (blk_new3 w _ _ _ _)) _)) _))
  have hb7:Below w.heap.size w w7:=(Below.gr ((Below.gr ((Below.gr (below_alloc3 w _ _ _) h3).alloc (by omega) _) h4).alloc (by omega) _) h6).trans (hB7 _ (by omega))
  refine wpAnyG_storeK 11 rfl (by kernel_rfl) (by rfl) _ _ _ rfl (w3.heap.size) (fcs (hi)) rfl rfl _ _ (B6) (by kernel_rfl) (by rfl) (fcs_one _) rfl (λw6 h7 w8 hB8 hK8 hL8=>?_)
  try simp only [Act.put]
  refine wpAnyG_done (by kernel_rfl) (λw9 h9=>?_)
  have B5:Blk w9 w4.heap.size 280 _:=Gr.blk h9 (hK8 _ (by omega) _ _ (Gr.blk h7 hL7))
  have B6:=Gr.blk h9 hL8
  have BR9:Blk w9 (w.heap.size+2) 46 _:=Gr.blk h9 (hK8 _ (by omega) _ _ (Gr.blk h7 BR7))
  have hb9:Below w.heap.size w w9:=Below.gr ((Below.gr hb7 h7).trans (hB8 _ (by omega))) h9
  have hsz9:w4.heap.size+1≤w9.heap.size:=by have h1:=B5.lt; have h2:=B6.lt; omega
  clear h3 h4 h6 h7 h9 hB7 hB8 hK7 hK8 hL7 hL8 BR7 hb7
  go_wp2_with (first | ((with_reducible refine here_load (d:=some 20) ?_); refine wpList_load_fv rfl _ _ rfl (w3.heap.size) rfl (hi) _ _ _ (B6) (fv_fcs hi) Tryz.underlying280 rfl (by kernel_rfl) ?_))
  refine (ct _).mono ?_
  rintro e w10 ⟨rfl,hb⟩
  have B5:=Gr.blk hb B5
  have BR:=Gr.blk hb BR9
  have hBn:=Below.gr hb9 hb
  have hsz10:w4.heap.size+1≤w10.heap.size:=by have:=hb.size; omega
  clear hb hb9 BR9 B6 ct
  go_wp2_with (first | ((with_reducible refine here_store ?_); refine wpList_store_blk rfl _ _ _ rfl (w10.heap.size) (fcs (f)) rfl rfl _ _ (Blk.new w10 _ _) (by kernel_rfl) (by rfl) (fcs_one _) ?_; intro w11 hL11 hB11 hK11; have B5':=hK11 _ (by omega) _ _ (B5.alloc _); have BR':=hK11 _ (by omega) _ _ (BR.alloc _)))
  refine (cm _).mono ?_
  rintro e w12 ⟨rfl,rfl⟩
  go_wp2_with (first | ((with_reducible refine here_load (d:=some 29) ?_); refine wpList_load_fv rfl _ _ rfl (w4.heap.size) rfl (lo) _ _ _ (B5') (fv_fcs lo) Tryz.underlying280 rfl (by kernel_rfl) ?_) | ((with_reducible refine here_load (d:=some 30) ?_); refine wpList_load_fv rfl _ _ rfl (w10.heap.size) rfl (f) _ _ _ (hL11) (fv_fcs f) Tryz.underlying280 rfl (by kernel_rfl) ?_))
  refine (ca _).mono ?_
  rintro e w13 ⟨rfl,hb13⟩
  go_wp2_with fail
  refine (cb _).mono ?_
  rintro e w14 ⟨rfl,hb14⟩
  go_wp2_with fail
  refine (cr _).mono ?_
  rintro e w15 ⟨rfl,hb15⟩
  go_wp2_with fail
  refine (number_any _ _).mono ?_
  rintro e w16 ⟨rfl,hb16⟩
  have BR16:=Gr.blk hb16 (Gr.blk hb15 (Gr.blk hb14 (Gr.blk hb13 BR')))
  have hB16:=Below.gr (Below.gr (Below.gr (Below.gr ((hBn.alloc (by omega) _).trans (hB11 _ (by omega))) hb13) hb14) hb15) hb16
  clear hb13 hb14 hb15 hb16
  go_wp2_with (first | ((with_reducible refine here_store ?_); refine wpList_store_blk rfl _ _ _ rfl (w.heap.size+2) (fcs (z)) rfl rfl _ _ (BR16) (by kernel_rfl) (by rfl) (fcs_one _) ?_; intro w17 hL17 hB17 hK17))
  exact bodyPost_ret (results_cell_row rfl _ _ (w.heap.size+2) _ _ (0,0) _ rfl hL17 Tryz.underlying46 rfl (by kernel_rfl)) rfl ⟨rfl,hB16.trans (hB17 _ (by omega))⟩
end
end
end Go.Proofs.YtmennpefjofhjaaGreatDoor
