/-
  Texts of ours, put together: Lift2, FeSpec, FeLift, FeBase, FeAdd, FeOrd, OrdV, Ord4, Rnd, Sym, SymB, SymC, SymE, SymF, SymG, SymG2, Zz, SymZ, SymK, SymD, SymY, SymI, SymR, Ec, EcM, FeMul, FeRow, FeProd, FeOps.
-/
import Derived.Test.YtgggdbjakcpanaaGreatDoorQCLift
import Derived.Test.YtgggdbjakcpanaaGreatDoorQCOwnAny
import Derived.WalkKit
import Derived.Test.YtgggdbjakcpanaaGreatDoorRows
import Derived.Laws.IdiomArrays
import Derived.Test.YtgggdbjakcpanaaGreatDoorQCMem
import Derived.ProofKit
import Derived.OpenShut
import Derived.Deep.DeepHandedRow
import Derived.Lib.LaidTab
import Derived.Test.YtgggdbjakcpanaaGreatDoorChecked
import Derived.Shelf.Spec.BitsCarry
import Derived.Lib.Mul64
import Derived.Laws.Bits64b
import Derived.Laws.ResultCell
import Derived.Test.YtgggdbjakcpanaaGreatDoorQCOrd
import Derived.OrdersIn
import Derived.TacticsIn
import Derived.RangeFuncCalls
import Derived.ControlIn
import Derived.RangeFuncNested
import Derived.RangeFuncLeaves
import Derived.LoopNIn
import Derived.Laws.AppendOwn
import Derived.Deep.DeepAppendRoom
import Derived.ArgAppend
import Derived.Laws.IdiomCopy
import Derived.Laws.MakeOwn
import Derived.RangeFuncSeq
import Derived.OwnWalkIn
import Derived.KernelRfl
import Derived.RegionTactic
import Derived.ChangeAlike
import Derived.BigRegion
import Derived.Stop.BytesEq
import Derived.Deep.AppendLies
import Derived.OwnWalk
import Derived.Great.BuildSlice
import Derived.Laws.Tables
import Derived.Lib.AppendZeros
import Derived.Scope
import Derived.Deep.Slices
import Derived.SizedLaws
import Derived.Deep.Strs
import Derived.Laws.IdiomStrings
import Derived.Test.YtgggdbjakcpanaaGreatDoorQCTag
import Derived.Test.YtgggdbjakcpanaaGreatDoorQCRefTag
import Derived.Lib.BitFns
import Derived.Shelf.Small.Bits
import Derived.Shelf.Strconv.Itoa0
import Derived.Test.YtgggdbjakcpanaaGreatDoorProg
import Derived.IntWalk
import Derived.Deep.QuietTactic
import Derived.BigQuiet
set_option linter.unusedVariables false
set_option linter.unusedSimpArgs false
namespace Go.Proofs.YtgggdbjakcpanaaGreatDoor
section
open Go.RowKit
section
variable {P:Program} {ops:Array Oper} {Q:Exit→Act→World→Prop} {md:Region.Mode} {ex:Nat→Bool}
theorem tkw (i:Nat) {oi:Oper} {v:Value} {fuel:Nat} {listed:Array Bool} {a:Act} {w:World} (hi0:ops.toList[i]? = some oi) (hy:YieldsG P ops oi v a w) (h:wpAnyG P md ops Q ex fuel (listed.setIfInBounds i true) (a.put oi.dst v) w) (hc:canTake md ops listed ex i=true:=by kernel_rfl) (hQ:∀ c a w,Q (.panic c) (a.put oi.dst v) w→Q (.panic c) a w:=by exact λ_ _ _ h=>h):wpAnyG P md ops Q ex (fuel+1) listed a w:=wpAnyG_take i hi0 hc hQ hy h
theorem tk (i:Nat) {oi:Oper} {v:Value} {fuel:Nat} {listed:Array Bool} {a:Act} {w:World} (hi0:ops.toList[i]? = some oi) (h:wpAnyG P md ops Q ex fuel (listed.setIfInBounds i true) (a.put oi.dst v) w) (hw:Region.wanted oi (yielded ops a.tmps)=true:=by rfl) (hg:∀ w1,Gr w w1→(execOp a.eval oi).run P w1=.ok (.value v) w1:=by intro w9 _; go_simp; try with_reducible rfl) (hc:canTake md ops listed ex i=true:=by kernel_rfl) (hQ:∀ c a w,Q (.panic c) (a.put oi.dst v) w→Q (.panic c) a w:=by exact λ_ _ _ h=>h):wpAnyG P md ops Q ex (fuel+1) listed a w:=wpAnyG_take i hi0 hc hQ (YieldsG.pure hw hg) h
end
theorem aA {α:Type _} (l:List α) (i:Nat) (a:α):l.toArray.setIfInBounds i a=(l.set i a).toArray:=List.setIfInBounds_toArray ..
theorem aZ {α:Type _} {x:α} {xs:List α} {a:α}:(x::xs).set 0 a=a::xs:=rfl
theorem aS {α:Type _} {x:α} {xs:List α} {n:Nat} {a:α}:(x::xs).set (n+1) a=x::xs.set n a:=rfl
abbrev Zl (n:Nat):List Value:=List.replicate n (.int .u8 0)
end
section
namespace Sh
open Go.ChangeShapes Go.WideShapes Go.ChangeAt Go.RowKit
end Sh
end
section
section
open Go.RowKit
def qv (n:Nat):Value:=.int .u64 (n:Int)
def fv (n:Nat):Value:=.agg #[qv (n%18446744073709551616),qv (n / 18446744073709551616%18446744073709551616),qv (n / 340282366920938463463374607431768211456%18446744073709551616),qv (n / 6277101735386680763835789423207666416102355444464034512896%18446744073709551616)]
theorem fv_mk (a b c d:Nat) (ha:a<18446744073709551616) (hb:b<18446744073709551616) (hc:c<18446744073709551616) (hd:d<18446744073709551616):Value.agg #[.int .u64 (a:Int),.int .u64 (b:Int),.int .u64 (c:Int),.int .u64 (d:Int)]=fv (a+18446744073709551616*b+340282366920938463463374607431768211456*c+6277101735386680763835789423207666416102355444464034512896*d):=by
 unfold fv qv
 have e0:(a+18446744073709551616*b+340282366920938463463374607431768211456*c+6277101735386680763835789423207666416102355444464034512896*d)%18446744073709551616=a:=by omega
 have e1:(a+18446744073709551616*b+340282366920938463463374607431768211456*c+6277101735386680763835789423207666416102355444464034512896*d) / 18446744073709551616%18446744073709551616=b:=by omega
 have e2:(a+18446744073709551616*b+340282366920938463463374607431768211456*c+6277101735386680763835789423207666416102355444464034512896*d) / 340282366920938463463374607431768211456%18446744073709551616=c:=by omega
 have e3:(a+18446744073709551616*b+340282366920938463463374607431768211456*c+6277101735386680763835789423207666416102355444464034512896*d) / 6277101735386680763835789423207666416102355444464034512896%18446744073709551616=d:=by omega
 rw [e0,e1,e2,e3]
theorem words_of (n:Nat) (hn:n<(2^256)):∃ a b c d:Nat,a<18446744073709551616∧b<18446744073709551616∧c<18446744073709551616∧d<18446744073709551616∧n=a+18446744073709551616*b+340282366920938463463374607431768211456*c+6277101735386680763835789423207666416102355444464034512896*d∧fv n=.agg #[.int .u64 (a:Int),.int .u64 (b:Int),.int .u64 (c:Int),.int .u64 (d:Int)] :=
 ⟨n%18446744073709551616,n / 18446744073709551616%18446744073709551616,n / 340282366920938463463374607431768211456%18446744073709551616,n / 6277101735386680763835789423207666416102355444464034512896%18446744073709551616,by omega,by omega,by omega,by omega,by omega,rfl⟩
theorem fv_lt (a b c d:Nat) (ha:a<18446744073709551616) (hb:b<18446744073709551616) (hc:c<18446744073709551616) (hd:d<18446744073709551616):a+18446744073709551616*b+340282366920938463463374607431768211456*c+6277101735386680763835789423207666416102355444464034512896*d<(2^256):=by omega
def pM:Nat:=115792089237316195423570985008687907853269984665640564039457584007908834671663
theorem pM_eq:pM=115792089237316195423570985008687907853269984665640564039457584007908834671663:=rfl
theorem mod_lt (n:Nat):n%pM<(2^256):=by have:=Nat.mod_lt n (show 0<pM by decide); rw [pM_eq] at this ⊢; omega
theorem mod_lt_p (n:Nat):n%pM<pM:=Nat.mod_lt n (by decide)
def addP (x y:Nat):Nat:=(x+y)%pM
def mulP (x y:Nat):Nat:=x*y%pM
theorem red_once (x:Nat) (hx:x<(2^256)):x%pM=if x+4294968273<(2^256) then x else x+4294968273 - (2^256):=by
 rw [pM_eq]
 by_cases h:x+4294968273<(2^256)
 ·rw [if_pos h]; exact Nat.mod_eq_of_lt (by omega)
 ·rw [if_neg h,Nat.mod_eq_sub_mod (by omega),Nat.mod_eq_of_lt (by omega)]
  omega
theorem mod_of_mult {x z k:Nat} (h:z+115792089237316195423570985008687907853269984665640564039457584007908834671663*k=x):z%pM=x%pM:=by
 rw [← h,pM_eq,Nat.add_mul_mod_self_left]
theorem row_mul (a b c d w:Nat):(a+18446744073709551616*b+340282366920938463463374607431768211456*c+6277101735386680763835789423207666416102355444464034512896*d)*w=a*w+18446744073709551616*(b*w)+340282366920938463463374607431768211456*(c*w)+6277101735386680763835789423207666416102355444464034512896*(d*w):=by
 simp only [Nat.add_mul,Nat.mul_assoc]
theorem col_mul (x a b c d:Nat):x*(a+18446744073709551616*b+340282366920938463463374607431768211456*c+6277101735386680763835789423207666416102355444464034512896*d)=x*a+18446744073709551616*(x*b)+340282366920938463463374607431768211456*(x*c)+6277101735386680763835789423207666416102355444464034512896*(x*d):=by
 rw [Nat.mul_comm,row_mul,Nat.mul_comm a,Nat.mul_comm b,Nat.mul_comm c,Nat.mul_comm d]
end
end
section
section
open Go.ChangeShapes Go.WideShapes Go.ChangeAt Go.RowKit
section
variable {H:Type} {enc:TypeId×Value→H} {P:Program}
end
theorem u64_wf {n:Int} (h:(Lit.int .u64 n).wf=true):∃ m:Nat,n=(m:Int)∧m<18446744073709551616:=by
 have hz:0≤n∧n<18446744073709551616:=by
  simp [Lit.wf,IntKind.bits,IntKind.signed,IntKind.min,IntKind.max] at h
  omega
 exact ⟨n.toNat,by omega,by omega⟩
end
end
section
section
open Go.RowKit Go.Lib
theorem run_addc (x y c:Nat) (hc:c≤1) (w:World) :
  (callFunc 316 #[.int .u64 x,.int .u64 y,.int .u64 c]).run Tryz.prog w =
   .ok (.value (.tuple #[.int .u64 (((x+y+c)%18446744073709551616:Nat):Int),.int .u64 (((x+y+c) / 18446744073709551616:Nat):Int)])) w:=by
 rw [run_callFunc_extern Tryz.func316 (by kernel_rfl) (by kernel_rfl) (by kernel_rfl) (e:=add64Entry) (by kernel_rfl),run_add64 x y c (by omega) (by omega) (by omega) (by omega)]
 simp only [Result.andThen]
 congr 5 <;> omega
theorem run_subc (x y b:Nat) (hb:b≤1) (w:World) :
  (callFunc 309 #[.int .u64 x,.int .u64 y,.int .u64 b]).run Tryz.prog w =
   .ok (.value (.tuple #[.int .u64 (((x+18446744073709551616 - y - b)%18446744073709551616:Nat):Int),.int .u64 ((if x<y+b then 1 else 0:Nat):Int)])) w:=by
 rw [run_callFunc_extern Tryz.func309 (by kernel_rfl) (by kernel_rfl) (by kernel_rfl) (e:=sub64Entry) (by kernel_rfl),run_sub64 x y b hb]
 rfl
theorem run_add0 (x y:Nat) (w:World) :
  (callFunc 316 #[.int .u64 x,.int .u64 y,.int .u64 0]).run Tryz.prog w =
   .ok (.value (.tuple #[.int .u64 (((x+y)%18446744073709551616:Nat):Int),.int .u64 (((x+y) / 18446744073709551616:Nat):Int)])) w:=run_addc x y 0 (by omega) w
theorem run_sub0 (x y:Nat) (w:World) :
  (callFunc 309 #[.int .u64 x,.int .u64 y,.int .u64 0]).run Tryz.prog w =
   .ok (.value (.tuple #[.int .u64 (((x+18446744073709551616 - y)%18446744073709551616:Nat):Int),.int .u64 ((if x<y then 1 else 0:Nat):Int)])) w:=run_subc x y 0 (by omega) w
theorem addc_ex (x y c:Nat) (hx:x<18446744073709551616) (hy:y<18446744073709551616) (hc:c≤1):∃ s k:Nat,s<18446744073709551616∧k≤1∧s+18446744073709551616*k=x+y+c∧∀ w,(callFunc 316 #[.int .u64 x,.int .u64 y,.int .u64 c]).run Tryz.prog w=.ok (.value (.tuple #[.int .u64 (s:Int),.int .u64 (k:Int)])) w :=
 ⟨_,_,by omega,by omega,by omega,run_addc x y c hc⟩
theorem subc_ex (x y c:Nat) (hx:x<18446744073709551616) (hy:y<18446744073709551616) (hc:c≤1):∃ s k:Nat,s<18446744073709551616∧k≤1∧s+y+c=x+18446744073709551616*k∧∀ w,(callFunc 309 #[.int .u64 x,.int .u64 y,.int .u64 c]).run Tryz.prog w=.ok (.value (.tuple #[.int .u64 (s:Int),.int .u64 (k:Int)])) w :=
 ⟨_,_,by omega,by split <;> omega,by split <;> omega,run_subc x y c hc⟩
theorem add0_ex (x y:Nat) (hx:x<18446744073709551616) (hy:y<18446744073709551616):∃ s k:Nat,s<18446744073709551616∧k≤1∧s+18446744073709551616*k=x+y∧∀ w,(callFunc 316 #[.int .u64 x,.int .u64 y,.int .u64 0]).run Tryz.prog w=.ok (.value (.tuple #[.int .u64 (s:Int),.int .u64 (k:Int)])) w :=
 ⟨_,_,by omega,by omega,by omega,run_add0 x y⟩
theorem sub0_ex (x y:Nat) (hx:x<18446744073709551616) (hy:y<18446744073709551616):∃ s k:Nat,s<18446744073709551616∧k≤1∧s+y=x+18446744073709551616*k∧∀ w,(callFunc 309 #[.int .u64 x,.int .u64 y,.int .u64 0]).run Tryz.prog w=.ok (.value (.tuple #[.int .u64 (s:Int),.int .u64 (k:Int)])) w :=
 ⟨_,_,by omega,by split <;> omega,by split <;> omega,run_sub0 x y⟩
theorem below_alloc2 (w:World) (o o':Obj):Below w.heap.size w ((w.alloc o).alloc o'):=((Below.refl _ _).alloc (Nat.le_refl _) _).alloc (by simp) _
theorem below_alloc3 (w:World) (o o' o'':Obj):Below w.heap.size w (((w.alloc o).alloc o').alloc o''):=(below_alloc2 w o o').alloc (by simp; omega) _
theorem blk_new2 (w:World) (o:Obj) (t:TypeId) (cs:Array Value):Blk ((w.alloc o).alloc (.cells cs t)) (w.heap.size+1) t cs:=heap_alloc2_new w _ _
theorem blk_new3 (w:World) (o o':Obj) (t:TypeId) (cs:Array Value):Blk (((w.alloc o).alloc o').alloc (.cells cs t)) (w.heap.size+2) t cs:=by
 have h:=Blk.new ((w.alloc o).alloc o') t cs
 have e:((w.alloc o).alloc o').heap.size=w.heap.size+2:=by simp
 rwa [e] at h
theorem heap_new3 (w:World) (o o' o'':Obj):(((w.alloc o).alloc o').alloc o'').heap[w.heap.size+1+1]? = some o'':=by
 have h:=heap_alloc_new ((w.alloc o).alloc o') o''
 have e:((w.alloc o).alloc o').heap.size=w.heap.size+1+1:=by simp
 rwa [e] at h
theorem blk_new4 (w:World) (o o' o'':Obj) (t:TypeId) (cs:Array Value):Blk ((((w.alloc o).alloc o').alloc o'').alloc (.cells cs t)) (w.heap.size+3) t cs:=by
 have h:=Blk.new (((w.alloc o).alloc o').alloc o'') t cs
 have e:(((w.alloc o).alloc o').alloc o'').heap.size=w.heap.size+3:=by simp
 rwa [e] at h
section
variable {P:Program} {ops:Array Oper} {Q:Exit→Act→World→Prop} {rest:List Oper} {a:Act} {w:World} {d:Option Tmp} {t:TypeId} {p:String} {af:Array Edge} {g:Option (Nat×Bool)}
theorem here_load {ty:TypeId} {x:Operand} (h:wpList P ops Q (⟨d,.load ty x,t,p,af,g⟩::rest) a w):wpList P ops Q (⟨d,.load ty x,t,p,af,g⟩::rest) a w:=h
theorem here_store {ty:TypeId} {x y:Operand} (h:wpList P ops Q (⟨d,.store ty x y,t,p,af,g⟩::rest) a w):wpList P ops Q (⟨d,.store ty x y,t,p,af,g⟩::rest) a w:=h
end
theorem res_cell_tmp {P:Program} {fn:Func} {p u:Tmp} {ty:TypeId} (h:fn.results=#[.cell p ty,.tmp u]) (tmps:Array Value) (w:World) (g:Nat) (t:TypeId) (cs:Array Value) (v:Value) (d:TypeDesc)
  (hp:tmps.getD p undef=.pointer (some ⟨g,0,none⟩)) (hg:Blk w g t cs) (hv:tmps.getD u undef=v)
  (hu:P.underlying ty=some d) (hd:(match d with | .struct _ | .array _ _=>true | _=>false)=true) (hi:(P.info? ty).map (·.size)=some cs.size) :
  (results fn tmps).run P w=.ok (.tuple #[.agg cs,v]) w:=by
 rw [results_cell_tmp h,hp,hv]
 simp [asAddr,run_loadVar_row w g t ty cs (0,0) d hg hu hd hi]
theorem res_tmp_cell {P:Program} {fn:Func} {p u:Tmp} {ty:TypeId} (h:fn.results=#[.tmp u,.cell p ty]) (tmps:Array Value) (w:World) (g:Nat) (t:TypeId) (cs:Array Value) (v:Value) (d:TypeDesc)
  (hp:tmps.getD p undef=.pointer (some ⟨g,0,none⟩)) (hg:Blk w g t cs) (hv:tmps.getD u undef=v)
  (hu:P.underlying ty=some d) (hd:(match d with | .struct _ | .array _ _=>true | _=>false)=true) (hi:(P.info? ty).map (·.size)=some cs.size) :
  (results fn tmps).run P w=.ok (.tuple #[v,.agg cs]) w:=by
 have hp':tmps[p]?.getD undef=.pointer (some ⟨g,0,none⟩):=by simpa using hp
 have hv':tmps[u]?.getD undef=v:=by simpa using hv
 simp [results,h,hp',hv',asAddr,run_loadVar_row w g t ty cs (0,0) d hg hu hd hi,Result.andThen]
theorem res_two_cells {P:Program} {fn:Func} {p q:Tmp} {ty ty2:TypeId} (h:fn.results=#[.cell p ty,.cell q ty2]) (tmps:Array Value) (w:World) (g g2:Nat) (t t2:TypeId) (cs cs2:Array Value) (d d2:TypeDesc)
  (hp:tmps.getD p undef=.pointer (some ⟨g,0,none⟩)) (hg:Blk w g t cs) (hq:tmps.getD q undef=.pointer (some ⟨g2,0,none⟩)) (hg2:Blk w g2 t2 cs2)
  (hu:P.underlying ty=some d) (hd:(match d with | .struct _ | .array _ _=>true | _=>false)=true) (hi:(P.info? ty).map (·.size)=some cs.size)
  (hu2:P.underlying ty2=some d2) (hd2:(match d2 with | .struct _ | .array _ _=>true | _=>false)=true) (hi2:(P.info? ty2).map (·.size)=some cs2.size) :
  (results fn tmps).run P w=.ok (.tuple #[.agg cs,.agg cs2]) w:=by
 have hp':tmps[p]?.getD undef=.pointer (some ⟨g,0,none⟩):=by simpa using hp
 have hq':tmps[q]?.getD undef=.pointer (some ⟨g2,0,none⟩):=by simpa using hq
 simp [results,h,hp',hq',asAddr,run_loadVar_row w g t ty cs (0,0) d hg hu hd hi,run_loadVar_row w g2 t2 ty2 cs2 (0,0) d2 hg2 hu2 hd2 hi2,Result.andThen]
theorem split_any (w:World) (n:Nat):Calls Tryz.prog 294 #[fv n] w λe w'=>e=.returned (fv n)∧Below w.heap.size w w':=by
 unfold fv qv
 go_enter Tryz.func294,Tryz.ntmps294
 go_wp2
 exact bodyPost_ret (results_cell_row rfl _ _ (w.heap.size+1) _ _ (0,0) _ rfl (heap_alloc2_new w _ _) Tryz.underlying414 rfl (by kernel_rfl)) rfl ⟨rfl,below_alloc2 w _ _⟩
theorem number_any (w:World) (n:Nat):Calls Tryz.prog 292 #[fv n] w λe w'=>e=.returned (fv n)∧Below w.heap.size w w':=by
 unfold fv qv
 go_enter Tryz.func292,Tryz.ntmps292
 go_wp2
 exact bodyPost_ret (results_cell_row rfl _ _ (w.heap.size+1) _ _ (0,0) _ rfl (heap_alloc2_new w _ _) Tryz.underlying71 rfl (by kernel_rfl)) rfl ⟨rfl,below_alloc2 w _ _⟩
set_option maxHeartbeats 1000000 in
theorem plus_any (w:World) (x y:Nat) (hx:x<(2^256)) (hy:y<(2^256)):Calls Tryz.prog 314 #[fv x,fv y] w λe w'=>(∃ s k:Nat,s<(2^256)∧k≤1∧s+(2^256)*k=x+y∧e=.returned (.tuple #[fv s,.int .u64 (k:Int)]))∧Below w.heap.size w w':=by
 obtain ⟨x0,x1,x2,x3,a0,a1,a2,a3,ex,fx⟩:=words_of x hx
 obtain ⟨y0,y1,y2,y3,b0,b1,b2,b3,ey,fy⟩:=words_of y hy
 rw [fx,fy]
 obtain ⟨s0,c0,d0,k0,e0,r0⟩:=add0_ex x0 y0 a0 b0
 obtain ⟨s1,c1,d1,k1,e1,r1⟩:=addc_ex x1 y1 c0 a1 b1 k0
 obtain ⟨s2,c2,d2,k2,e2,r2⟩:=addc_ex x2 y2 c1 a2 b2 k1
 obtain ⟨s3,c3,d3,k3,e3,r3⟩:=addc_ex x3 y3 c2 a3 b3 k2
 have fin:s0+18446744073709551616*s1+340282366920938463463374607431768211456*s2+6277101735386680763835789423207666416102355444464034512896*s3+(2^256)*c3=x+y:=by omega
 have hs:=Lib.hid (fv_mk s0 s1 s2 s3 d0 d1 d2 d3)
 have hlt:=fv_lt s0 s1 s2 s3 d0 d1 d2 d3
 clear ex ey fx fy e0 e1 e2 e3 a0 a1 a2 a3 b0 b1 b2 b3
 go_enter Tryz.func314,Tryz.ntmps314
 go_wp2_with (first | (simp only [r0,r1,r2,r3]) | (with_reducible refine here_load (d:=some 45) ?_; refine wpList_load_row rfl _ _ rfl (w.heap.size+1+1) rfl _ _ (0,0) _ (heap_new3 w _ _ _) Tryz.underlying414 rfl (by kernel_rfl) ?_))
 exact bodyPost_ret (res_cell_tmp rfl _ _ (w.heap.size+2) _ _ _ _ rfl (blk_new3 w _ _ _ _) rfl Tryz.underlying414 rfl (by kernel_rfl)) rfl ⟨⟨_,c3,hlt,k3,fin,by rw [← hs.out]; rfl⟩,below_alloc3 w _ _ _⟩
end
end
section
section
open Go.RowKit Go.Lib
theorem wpList_store_blk {P:Program} {ops:Array Oper} {rest:List Oper} {o:Oper} {a:Act} {w1:World} {Q:Exit→Act→World→Prop} (hgd:o.guard=none) (ty:TypeId) (x y:Operand) (ho:o.op=.store ty x y)
  (g:Nat) (cells:Array Value) (hx:a.eval x=.pointer (some ⟨g,0,none⟩)) (hy:a.eval y=.agg cells) (t:TypeId) (c:Array Value) (hg:Blk w1 g t c)
  (hi:(P.info? ty).map (·.size)=some cells.size) (hold:c.size=cells.size) (h1:cells.all (·.oneCell')=true)
  (h:∀ w2,Blk w2 g t cells→(∀ B,B≤g→Below B w1 w2)→(∀ k,k≠g→∀ t' cs',Blk w1 k t' cs'→Blk w2 k t' cs')→wpList P ops Q rest (a.put o.dst undef) w2):wpList P ops Q (o::rest) a w1 :=
 wpList_store_row hgd ty x y ho g cells hx hy t c hg hi hold h1
  (h _ (hg.setRow cells) (λ_ hB=>below_setRow (Below.refl _ _) hB _) (λ_ hk _ _ hb=>hb.setRow_far hk _))
theorem wpList_load_blk {P:Program} {ops:Array Oper} {rest:List Oper} {o:Oper} {a:Act} {w:World} {Q:Exit→Act→World→Prop} (hgd:o.guard=none) (ty:TypeId) (x:Operand) (ho:o.op=.load ty x)
  (g:Nat) (hx:a.eval x=.pointer (some ⟨g,0,none⟩)) (t:TypeId) (cs:Array Value) (d:TypeDesc) (hg:Blk w g t cs)
  (hu:P.underlying ty=some d) (hd:(match d with | .struct _ | .array _ _=>true | _=>false)=true) (hi:(P.info? ty).map (·.size)=some cs.size)
  (h:wpList P ops Q rest (a.put o.dst (.agg cs)) w):wpList P ops Q (o::rest) a w :=
 wpList_load_row hgd ty x ho g hx t cs (0,0) d hg hu hd hi h
theorem Blk.set0 {w:World} {g:Nat} {t:TypeId} {a b c d:Value} (h:Blk w g t #[a,b,c,d]) (u:Value):Blk (w.setCell ⟨g,0,none⟩ u) g t #[u,b,c,d]:=h.set_ 0 u
theorem fv_G:fv 4294968273=.agg #[.int .u64 4294968273,.int .u64 0,.int .u64 0,.int .u64 0]:=rfl
theorem fv_0:fv 0=.agg #[.int .u64 0,.int .u64 0,.int .u64 0,.int .u64 0]:=rfl
set_option maxHeartbeats 1000000 in
theorem reduce_any (w:World) (x:Nat) (hx:x<(2^256)):Calls Tryz.prog 293 #[fv x] w λe w'=>e=.returned (fv (x%pM))∧Below w.heap.size w w':=by
 obtain ⟨x0,x1,x2,x3,a0,a1,a2,a3,ex,fx⟩:=words_of x hx
 have hp:=λw=>plus_any w x 4294968273 hx (by decide)
 simp only [fx,fv_G] at hp
 have FX:=Lib.hid fx
 have hred:=Lib.hid (red_once x hx)
 rw [fx]
 clear ex fx a0 a1 a2 a3
 go_enter Tryz.func293,Tryz.ntmps293
 go_wp2_with fail
 refine (hp _).mono ?_
 rintro e w1 ⟨⟨s,k,hs,hk,he,rfl⟩,hb⟩
 have hX:Blk w1 w.heap.size 414 _:=(Blk.alloc (Blk.new w _ _) _).below hb (by simp <;> omega)
 have hR:Blk w1 (w.heap.size+1) 414 _:=(blk_new2 w _ _ _).below hb (by simp <;> omega)
 have hB:Below w.heap.size w w1:=(below_alloc2 w _ _).trans (hb.mono (by simp <;> omega))
 have hsz:w.heap.size+2≤w1.heap.size:=by have:=hb.size; simp at this; omega
 obtain ⟨s0,s1,s2,s3,b0,b1,b2,b3,es,fs⟩:=words_of s hs
 have Fd:=Lib.hid fs
 have HE:=Lib.hid he
 rw [fs]
 clear es fs he hb hp
 rcases (show k=0∨k=1 by omega) with rfl | rfl
 ·go_wp2_with (first | ((with_reducible refine here_load (d:=some 13) ?_); refine wpList_load_blk rfl _ _ rfl (w.heap.size) rfl _ _ _ (hX.alloc _) Tryz.underlying414 rfl (by kernel_rfl) ?_) | ((with_reducible refine here_store ?_); refine wpList_store_blk rfl _ _ _ rfl (w.heap.size+1) _ rfl rfl _ _ (hR.alloc _) (by kernel_rfl) (by rfl) (by simp [Value.oneCell']) ?_; intro w2 hL hB2 hK2))
  exact bodyPost_ret (results_cell_row rfl _ _ (w.heap.size+1) _ _ (0,0) _ rfl hL Tryz.underlying414 rfl (by kernel_rfl)) rfl ⟨by rw [hred.out,if_pos (by have:=HE.out; omega),FX.out],(hB.alloc (by omega) _).trans (hB2 _ (by omega))⟩
 ·go_wp2_with (first | ((with_reducible refine here_load (d:=some 14) ?_); refine wpList_load_blk rfl _ _ rfl (w1.heap.size) rfl _ _ _ (Blk.new w1 _ _) Tryz.underlying414 rfl (by kernel_rfl) ?_) | ((with_reducible refine here_store ?_); refine wpList_store_blk rfl _ _ _ rfl (w.heap.size+1) _ rfl rfl _ _ (hR.alloc _) (by kernel_rfl) (by rfl) (by simp [Value.oneCell']) ?_; intro w2 hL hB2 hK2))
  exact bodyPost_ret (results_cell_row rfl _ _ (w.heap.size+1) _ _ (0,0) _ rfl hL Tryz.underlying414 rfl (by kernel_rfl)) rfl ⟨by rw [hred.out,if_neg (by have:=HE.out; omega),show x+4294968273 - (2^256)=s by have:=HE.out; omega,Fd.out],(hB.alloc (by omega) _).trans (hB2 _ (by omega))⟩
theorem fv_kG (k:Nat) (hk:k≤1):Value.agg #[.int .u64 ((k:Int)*4294968273),.int .u64 0,.int .u64 0,.int .u64 0]=fv (k*4294968273):=by
 rcases (show k=0∨k=1 by omega) with rfl | rfl <;> rfl
set_option maxHeartbeats 1000000 in
theorem add_any (w:World) (x y:Nat) (hx:x<(2^256)) (hy:y<(2^256)):Calls Tryz.prog 298 #[fv x,fv y] w λe w'=>(∃ z s k u j:Nat,s<(2^256)∧s+(2^256)*k=x+y∧u<(2^256)∧u+(2^256)*j=s+k*4294968273∧z=u+j*4294968273∧e=.returned (fv z))∧Below w.heap.size w w':=by
 obtain ⟨x0,x1,x2,x3,a0,a1,a2,a3,ex,fx⟩:=words_of x hx
 obtain ⟨y0,y1,y2,y3,b0,b1,b2,b3,ey,fy⟩:=words_of y hy
 have hp:=λw=>plus_any w x y hx hy
 simp only [fx,fy] at hp
 rw [fx,fy]
 clear ex fx a0 a1 a2 a3 ey fy b0 b1 b2 b3 hx hy
 go_enter Tryz.func298,Tryz.ntmps298
 go_wp2_with fail
 refine (hp _).mono ?_
 rintro e w1 ⟨⟨s,k,hs,hk,he,rfl⟩,hb⟩
 have hR:Blk w1 (w.heap.size+2) 414 _:=(blk_new3 w _ _ _ _).below hb (by simp <;> omega)
 have hB:Below w.heap.size w w1:=(below_alloc3 w _ _ _).trans (hb.mono (by simp <;> omega))
 have hsz:w.heap.size+3≤w1.heap.size:=by have:=hb.size; simp at this; omega
 obtain ⟨s0,s1,s2,s3,c0,c1,c2,c3,es,fs⟩:=words_of s hs
 have HE:=Lib.hid he
 have HS:=Lib.hid hs
 have hq:=λw=>plus_any w s (k*4294968273) hs (by omega)
 simp only [fs, ← fv_kG k hk] at hq
 rw [fs]
 clear es fs he hb hp c0 c1 c2 c3 hs
 go_wp2_with fail
 refine (hq _).mono ?_
 rintro e w2 ⟨⟨u,j,hu,hj,hf,rfl⟩,hb⟩
 have hR2:Blk w2 (w.heap.size+2) 414 _:=(hR.alloc _).below hb (by simp <;> omega)
 have hT2:Blk w2 w1.heap.size 414 _:=(Blk.new w1 _ _).below hb (by simp)
 have hB2:Below w.heap.size w w2:=(hB.alloc (by omega) _).trans (hb.mono (by simp <;> omega))
 have hsz2:w1.heap.size+1≤w2.heap.size:=by have:=hb.size; simp at this; omega
 obtain ⟨u0,u1,u2,u3,d0,d1,d2,d3,eu,fu⟩:=words_of u hu
 have hu0:u0+j*4294968273<18446744073709551616:=by
  have:=HS.out
  rcases (show j=0∨j=1 by omega) with rfl | rfl <;> omega
 obtain ⟨jg,ejg⟩:∃ jg,jg=j*4294968273:=⟨_,rfl⟩
 obtain ⟨v0,ev0⟩:∃ v0,v0=u0+jg:=⟨_,rfl⟩
 have hJ:(j:Int)*4294968273=(jg:Int):=by omega
 have hV:(u0:Int)+(jg:Int)=(v0:Int):=by omega
 have hv0:v0<18446744073709551616:=by omega
 have HV:=Lib.hid (And.intro ev0 ejg)
 have HF:=Lib.hid hf
 have HU:=Lib.hid (And.intro eu (And.intro hu (And.intro d0 (And.intro d1 (And.intro d2 d3)))))
 rw [fu]
 clear eu fu hf hb hq hu d0 d1 d2 d3 hu0 ev0 ejg
 go_wp2_with (first | ((with_reducible refine here_store ?_); refine wpList_store_blk rfl _ _ _ rfl (w1.heap.size) _ rfl rfl _ _ (hT2) (by kernel_rfl) (by rfl) (by simp [Value.oneCell']) ?_; intro w3 hL3 hB3 hK3; have hR3:=hK3 _ (by omega) _ _ hR2; have hc3:=hL3.cell 0; have hf3:=hL3.frozen 0; simp only [List.getElem?_toArray,List.getElem?_cons_zero] at hc3) | ((with_reducible refine here_load (d:=some 27) ?_); refine wpList_load_blk rfl _ _ rfl (w1.heap.size) rfl _ _ _ (hL3.set0 _) Tryz.underlying414 rfl (by kernel_rfl) ?_) | ((with_reducible refine here_store ?_); refine wpList_store_blk rfl _ _ _ rfl (w.heap.size+2) _ rfl rfl _ _ (hR3.far (by simp <;> omega) _) (by kernel_rfl) (by rfl) (by simp [Value.oneCell']) ?_; intro w4 hL4 hB4 hK4))
 obtain ⟨eu,hu,d0,d1,d2,d3⟩:=HU.out
 obtain ⟨ev0,ejg⟩:=HV.out
 have hz:=fv_mk v0 u1 u2 u3 hv0 d1 d2 d3
 exact bodyPost_ret (results_cell_row rfl _ _ (w.heap.size+2) _ _ (0,0) _ rfl hL4 Tryz.underlying414 rfl (by kernel_rfl)) rfl ⟨⟨v0+18446744073709551616*u1+340282366920938463463374607431768211456*u2+6277101735386680763835789423207666416102355444464034512896*u3,s,k,u,j,HS.out,HE.out,hu,HF.out,by omega,by rw [← hz]⟩,hB2.trans ((hB3 _ (by omega)).trans ((Below.refl _ _).setCell (by simp <;> omega) _ |>.trans (hB4 _ (by omega))))⟩
end
end
section
section
open Go.RowKit Go.Lib
def fcs (n:Nat):Array Value:=#[qv (n%18446744073709551616),qv (n / 18446744073709551616%18446744073709551616),qv (n / 340282366920938463463374607431768211456%18446744073709551616),qv (n / 6277101735386680763835789423207666416102355444464034512896%18446744073709551616)]
theorem fv_fcs (n:Nat):fv n=.agg (fcs n):=rfl
theorem fcs_one (n:Nat):(fcs n).all (·.oneCell')=true:=by simp [fcs,qv,Value.oneCell']
theorem words_fv (n:Nat) (hn:n<(2^256)):∃ a b c d:Nat,fv n=.agg #[.int .u64 (a:Int),.int .u64 (b:Int),.int .u64 (c:Int),.int .u64 (d:Int)] :=
 (words_of n hn).imp λ_ h=>h.imp λ_ h=>h.imp λ_ h=>h.imp λ_ h=>h.2.2.2.2.2
theorem split_at {v:Value} (n:Nat) (h:fv n=v) (w:World):Calls Tryz.prog 294 #[v] w λe w'=>e=.returned (fv n)∧Below w.heap.size w w':=by
 subst h; exact split_any w n
theorem Gr.blk {w w':World} (h:Gr w w') {g:Nat} {t:TypeId} {cs:Array Value} (hg:Blk w g t cs):Blk w' g t cs:=Blk.below hg h hg.lt
theorem Below.gr {w a b:World} (h:Below w.heap.size w a) (g:Gr a b):Below w.heap.size w b:=Below.trans h (Below.mono g (Below.size h))
theorem fv_small (n:Nat) (hn:n<18446744073709551616):fv n=.agg #[.int .u64 (n:Int),.int .u64 0,.int .u64 0,.int .u64 0]:=(fv_mk n 0 0 0 hn (by omega) (by omega) (by omega)).symm
theorem plus_at {v1 v2:Value} (w:World) (x y s k:Nat) (h1:fv x=v1) (h2:fv y=v2) (hx:x<(2^256)) (hy:y<(2^256)) (hs:s<(2^256)) (he:s+(2^256)*k=x+y) :
  Calls Tryz.prog 314 #[v1,v2] w λe w'=>e=.returned (.tuple #[fv s,.int .u64 (k:Int)])∧Below w.heap.size w w':=by
 subst h1 h2
 refine (plus_any w x y hx hy).mono ?_
 rintro e w' ⟨⟨s',k',hs',hk',he',rfl⟩,hb⟩
 obtain rfl:k'=k:=by omega
 obtain rfl:s'=s:=by omega
 exact ⟨rfl,hb⟩
theorem wpList_load_fv {P:Program} {ops:Array Oper} {rest:List Oper} {o:Oper} {a:Act} {w:World} {Q:Exit→Act→World→Prop} (hgd:o.guard=none) (ty:TypeId) (x:Operand) (ho:o.op=.load ty x)
  (g:Nat) (hx:a.eval x=.pointer (some ⟨g,0,none⟩)) (n:Nat) (t:TypeId) (cs:Array Value) (d:TypeDesc) (hg:Blk w g t cs) (hf:fv n=.agg cs)
  (hu:P.underlying ty=some d) (hd:(match d with | .struct _ | .array _ _=>true | _=>false)=true) (hi:(P.info? ty).map (·.size)=some cs.size)
  (h:wpList P ops Q rest (a.put o.dst (fv n)) w):wpList P ops Q (o::rest) a w :=
 wpList_load_row hgd ty x ho g hx t cs (0,0) d hg hu hd hi (hf ▸ h)
section
variable {P:Program} {ops:Array Oper} {Q:Exit→Act→World→Prop} {md:Region.Mode} {ex:Nat→Bool}
theorem YieldsG.loadF {o:Oper} {a:Act} {w:World} {d:TypeDesc} (hw:Region.wanted o (yielded ops a.tmps)=true) (ty:TypeId) (x:Operand) (ho:o.op=.load ty x)
  (g:Nat) (hx:a.eval x=.pointer (some ⟨g,0,none⟩)) (n:Nat) (t:TypeId) (c:Array Value) (hg:Blk w g t c) (hf:fv n=.agg c)
  (hu:P.underlying ty=some d) (hd:d.isRow=true) (hi:(P.info? ty).map (·.size)=some c.size):YieldsG P ops o (fv n) a w:=by
 have h:=YieldsG.load (P:=P) (ops:=ops) (o:=o) (a:=a) (w:=w) hw ty x ho g 0 hx c.toList d hg.lt (λj v hj=>by
  rw [Nat.zero_add,hg.cell]
  simpa using hj) hu hd (by simpa using hi)
 rw [hf]
 simpa using h
theorem wpAnyG_store (i:Nat) {oi:Oper} {fuel:Nat} {listed:Array Bool} {a:Act} {w:World} (hi0:ops.toList[i]? = some oi) (hr:Region.ready md ops listed=[i])
  (hw:Region.wanted oi (yielded ops a.tmps)=true) (ty:TypeId) (x y:Operand) (ho:oi.op=.store ty x y) (g:Nat) (cells:Array Value) (hx:a.eval x=.pointer (some ⟨g,0,none⟩)) (hy:a.eval y=.agg cells)
  (t:TypeId) (c:Array Value) (hg:Blk w g t c) (hi:(P.info? ty).map (·.size)=some cells.size) (hold:c.size=cells.size) (h1:cells.all (·.oneCell')=true) (hex:ex i=true)
  (h:∀ w1,Gr w w1→∀ w2,(∀ B,B≤g→Below B w1 w2)→Blk w2 g t cells→wpAnyG P md ops Q ex fuel (listed.setIfInBounds i true) (a.put oi.dst undef) w2) :
  wpAnyG P md ops Q ex (fuel+1) listed a w :=
 wpAnyG_sole i hi0 hr hw (λw1 hw1 K hK=>wp_store_row ty x y ho g cells hx hy t c (hw1.blk hg) hi hold h1
  (hK _ _ (λe=>by rw [hex] at e; cases e) (h w1 hw1 _ (λ_ hB=>below_setRow (Below.refl _ _) hB _) ((hw1.blk hg).setRow cells))))
end
open Go.RowKit
section
variable {P:Program} {ops:Array Oper} {Q:Exit→Act→World→Prop} {md:Region.Mode} {ex:Nat→Bool}
theorem wpOp_putA {j:Nat} {oi oj:Oper} {v:Value} (hj:ops[j]? = some oj) (hap:oi.apart ops oj=true)
  (hsi:∀ cs b,oi.op≠.select cs b) (hsj:∀ cs b,oj.op≠.select cs b)
  (hQ:∀ c a w,Q (.panic c) (a.put oi.dst v) w→Q (.panic c) a w) {K:Act→World→Prop} {a:Act} {w:World}
  (hy:∀ w0,YieldsG P ops oi v a w0) (h:wpOp P ops Q j K (a.put oi.dst v) w) :
  wpOp P ops Q j (λa' w'=>(∀ w0,YieldsG P ops oi v a' w0)∧K (a'.put oi.dst v) w') a w:=by
 obtain ⟨h1,h2,h3⟩:=Oper.apart_spec hap
 have keep:∀ (a:Act),(∀ w0,YieldsG P ops oi v a w0)→∀ u w0,YieldsG P ops oi v (a.put oj.dst u) w0:=λa hy u w0 =>
  (hy w0).of_same (execOp_put oi hsi a oj.dst u h3) (wanted_put oi a oj.dst u h3)
 have keepD:∀ d w0,YieldsG P ops oi v { a with defers:=d::a.defers } w0:=λd w0=>(hy w0).of_same rfl rfl
 unfold wpOp at *
 simp only [hj] at *
 rw [wanted_put oj a oi.dst v h1] at h
 split
 ·rename_i hw
  simp only [hw,if_true] at h
  rcases h with h | ⟨hasks,hlets⟩
  case inr=>exact .inr ⟨by unfold Oper.asks at *; rw [execOp_put oj hsj a oi.dst v h1] at hasks; exact hasks,hlets⟩
  refine .inl ?_
  unfold Oper.wp at *
  rw [execOp_put oj hsj a oi.dst v h1] at h
  generalize (execOp a.eval oj).run P w=r at *
  cases r with
  | ok n w' =>
   cases n <;> simp only [Oper.upon] at h ⊢
   case value u=>exact ⟨keep a hy u,by rw [← Act.put_comm a v u h2]; exact h⟩
   case skip=>exact ⟨keep a hy _,by rw [← Act.put_comm a v undef h2]; exact h⟩
   case defer d =>
    refine ⟨keep _ (keepD d) _,?_⟩
    rw [← Act.put_comm _ v undef h2, ← Act.put_defers]
    exact h
   case enter f args =>
    refine Calls.mono h λe w'' he=>?_
    cases e with
    | returned u=>exact ⟨keep a hy u,by rw [← Act.put_comm a v u h2]; exact he⟩
    | panicked c=>exact hQ _ _ _ he
    | outgrown=>exact he
   case row row args=>exact Rows.mono h λu w'' he=>⟨keep a hy u,by rw [← Act.put_comm a v u h2]; exact he⟩
  | halt x w' =>
   cases x <;> simp only [Oper.upon] at h ⊢
   case panic u=>exact hQ _ _ _ h
 ·rename_i hw
  simp only [hw] at h
  exact ⟨keep a hy _,by rw [← Act.put_comm a v undef h2]; exact h⟩
theorem wpAnyG_firstA {i:Nat} {oi:Oper} {v:Value} (hi:ops[i]? = some oi) (hsel:∀ (j:Nat) (o:Oper) cs b,ops[j]? = some o→o.op≠.select cs b)
  (hQ:∀ c a w,Q (.panic c) (a.put oi.dst v) w→Q (.panic c) a w) :
  ∀ (fuel:Nat) (listed:Array Bool) (a:Act) (w:World),
   (∀ j oj,ops[j]? = some oj→j≠i→listed.getD j true=false→(∀ e∈oj.after,Region.binds md e=true→e.on≠i)→oi.apart ops oj=true) →
   i∈Region.ready md ops listed→(∀ w0,YieldsG P ops oi v a w0) →
   wpAnyG P md ops Q ex fuel (listed.setIfInBounds i true) (a.put oi.dst v) w→wpAnyG P md ops Q ex (fuel+1) listed a w:=by
 intro fuel
 induction fuel with
 | zero =>
  intro listed a w _ hr hy H w1 hw1
  refine ⟨λh=>(by rw [h] at hr; cases hr),λj hj=>?_⟩
  by_cases hji:j=i
  ·subst hji; exact (hy w1).wpOp hi (λw' h'=>⟨λ_=>h',wpAnyG_grow _ _ _ _ _ (hw1.trans h') H⟩)
  ·have:=ready_mono hj hji
   rw [H.1] at this
   cases this
 | succ fuel ih =>
  intro listed a w hfree hr hy H w1 hw1
  refine ⟨λh=>(by rw [h] at hr; cases hr),λj hj=>?_⟩
  by_cases hji:j=i
  ·subst hji; exact (hy w1).wpOp hi (λw' h'=>⟨λ_=>h',wpAnyG_grow _ _ _ _ _ (hw1.trans h') H⟩)
  ·have h1:=(H w1 hw1).2 j (ready_mono hj hji)
   obtain ⟨hjun,oj,hoj,hall⟩:=mem_ready.1 hj
   have hnot:∀ e∈oj.after,Region.binds md e=true→e.on≠i:=λe he hb heq=>by
    have h1:=hall e he hb
    have h0:=(mem_ready.1 hr).1
    rw [heq] at h1
    rcases Nat.lt_or_ge i listed.size with h' | h'
    ·simp [h'] at h0 h1; rw [h0] at h1; cases h1
    ·simp [Array.getElem?_eq_none h'] at h1
   have h2:=wpOp_putA hoj (hfree j oj hoj hji hjun hnot) (λcs b=>hsel i oi cs b hi) (λcs b=>hsel j oj cs b hoj) hQ hy h1
   have hfree':∀ k ok,ops[k]? = some ok→k≠i→(listed.setIfInBounds j true).getD k true=false →
     (∀ e∈ok.after,Region.binds md e=true→e.on≠i)→oi.apart ops ok=true:=λk ok hk hki hun hno=>by
    refine hfree k ok hk hki ?_ hno
    by_cases hjk:j=k
    ·subst hjk; exact hjun
    ·rw [getD_set_ne true hjk] at hun; exact hun
   refine wpOp_mono (λa' w' h3=>⟨h3.2.1,ih (listed.setIfInBounds j true) a' w' hfree' (ready_mono hr (Ne.symm hji)) h3.1 ?_⟩) h2
   rw [Array.setIfInBounds_comm _ _ hji]
   exact h3.2.2
def canTakeA (md:Region.Mode) (ops:Array Oper) (listed:Array Bool) (i:Nat):Bool :=
 Region.noSelect ops && Region.free md ops listed i && (Region.ready md ops listed).contains i
theorem wpAnyG_takeA (i:Nat) {oi:Oper} {v:Value} {fuel:Nat} {listed:Array Bool} {a:Act} {w:World} (hi0:ops.toList[i]? = some oi) (hc:canTakeA md ops listed i=true)
  (hQ:∀ c a w,Q (.panic c) (a.put oi.dst v) w→Q (.panic c) a w) (hy:∀ w0,YieldsG P ops oi v a w0)
  (h:wpAnyG P md ops Q ex fuel (listed.setIfInBounds i true) (a.put oi.dst v) w):wpAnyG P md ops Q ex (fuel+1) listed a w:=by
 have hi:ops[i]? = some oi:=by simpa using hi0
 unfold canTakeA at hc
 simp only [Bool.and_eq_true] at hc
 exact wpAnyG_firstA hi (Region.noSelect_spec hc.1.1) hQ fuel listed a w (Region.free_spec hi hc.1.2) (by simpa using hc.2) hy h
end
section
variable {P:Program} {ops:Array Oper} {Q:Exit→Act→World→Prop} {md:Region.Mode} {ex:Nat→Bool}
theorem wpAnyG_storeK (i:Nat) {oi:Oper} {fuel:Nat} {listed:Array Bool} {a:Act} {w:World} (hi0:ops.toList[i]? = some oi) (hr:Region.ready md ops listed=[i])
  (hw:Region.wanted oi (yielded ops a.tmps)=true) (ty:TypeId) (x y:Operand) (ho:oi.op=.store ty x y) (g:Nat) (cells:Array Value) (hx:a.eval x=.pointer (some ⟨g,0,none⟩)) (hy:a.eval y=.agg cells)
  (t:TypeId) (c:Array Value) (hg:Blk w g t c) (hi:(P.info? ty).map (·.size)=some cells.size) (hold:c.size=cells.size) (h1:cells.all (·.oneCell')=true) (hex:ex i=true)
  (h:∀ w1,Gr w w1→∀ w2,(∀ B,B≤g→Below B w1 w2)→(∀ k,k≠g→∀ t' cs',Blk w1 k t' cs'→Blk w2 k t' cs')→Blk w2 g t cells→wpAnyG P md ops Q ex fuel (listed.setIfInBounds i true) (a.put oi.dst undef) w2) :
  wpAnyG P md ops Q ex (fuel+1) listed a w :=
 wpAnyG_sole i hi0 hr hw (λw1 hw1 K hK=>wp_store_row ty x y ho g cells hx hy t c (hw1.blk hg) hi hold h1
  (hK _ _ (λe=>by rw [hex] at e; cases e) (h w1 hw1 _ (λ_ hB=>below_setRow (Below.refl _ _) hB _) (λ_ hk _ _ hb=>hb.setRow_far hk _) ((hw1.blk hg).setRow cells))))
theorem wpAnyG_duo (i j:Nat) {oi oj:Oper} {fuel:Nat} {listed:Array Bool} {a:Act} {w:World} (hi0:ops.toList[i]? = some oi) (hj0:ops.toList[j]? = some oj) (hr:Region.ready md ops listed=[i,j])
  (hwi:Region.wanted oi (yielded ops a.tmps)=true) (hwj:Region.wanted oj (yielded ops a.tmps)=true)
  (h1:∀ w1,Gr w w1→∀ K:Act→World→Prop,(∀ a' w',(ex i=false→Gr w1 w')→wpAnyG P md ops Q ex fuel (listed.setIfInBounds i true) a' w'→K a' w')→Oper.wp P oi a w1 K Q)
  (h2:∀ w1,Gr w w1→∀ K:Act→World→Prop,(∀ a' w',(ex j=false→Gr w1 w')→wpAnyG P md ops Q ex fuel (listed.setIfInBounds j true) a' w'→K a' w')→Oper.wp P oj a w1 K Q) :
  wpAnyG P md ops Q ex (fuel+1) listed a w:=λw1 hw1 =>
 ⟨λh0=>(by rw [hr] at h0; cases h0),λm hm=>by
  rw [hr] at hm
  have hi:ops[i]? = some oi:=by simpa using hi0
  have hj:ops[j]? = some oj:=by simpa using hj0
  rcases (show m=i∨m=j by simpa using hm) with rfl | rfl
  ·refine wpOp_step hi (λK' hK=>?_)
   rw [if_pos hwi]
   exact h1 w1 hw1 K' (λa' w' h1 h2=>hK a' w' ⟨h1,h2⟩)
  ·refine wpOp_step hj (λK' hK=>?_)
   rw [if_pos hwj]
   exact h2 w1 hw1 K' (λa' w' h1 h2=>hK a' w' ⟨h1,h2⟩)⟩
end
end
end
section
section
open Go.RowKit
section
variable {P:Program} {ops:Array Oper} {Q:Exit→Act→World→Prop} {md:Region.Mode} {V:List (Nat×Obj)}
end
end
end
section
section
open Go.RowKit
section
variable {P:Program} {ops:Array Oper} {Q:Exit→Act→World→Prop} {md:Region.Mode} {ex:Nat→Bool}
theorem wpAnyG_firstB {i:Nat} {oi:Oper} {v:Value} (bs:Nat→Bool) (hi:ops[i]? = some oi) (hsel:∀ (j:Nat) (o:Oper) cs b,ops[j]? = some o→o.op≠.select cs b)
  (hQ:∀ c a w,Q (.panic c) (a.put oi.dst v) w→Q (.panic c) a w) (hex:∀ k ok,ops[k]? = some ok→ex k=true→bs k=true)
  (hbs:∀ k ok,ops[k]? = some ok→bs k=true→∃ e∈ok.after,Region.binds md e=true∧(e.on=i∨bs e.on=true)) :
  ∀ (fuel:Nat) (listed:Array Bool) (a:Act) (w:World),(∀ k,bs k=true→listed.getD k true=false) →
   (∀ j oj,ops[j]? = some oj→j≠i→listed.getD j true=false→bs j=false→oi.apart ops oj=true) →
   i∈Region.ready md ops listed→YieldsG P ops oi v a w →
   wpAnyG P md ops Q ex fuel (listed.setIfInBounds i true) (a.put oi.dst v) w→wpAnyG P md ops Q ex (fuel+1) listed a w:=by
 intro fuel
 induction fuel with
 | zero =>
  intro listed a w _ _ hr hy H w1 hw1
  refine ⟨λh=>(by rw [h] at hr; cases hr),λj hj=>?_⟩
  by_cases hji:j=i
  ·subst hji; exact (hy.grow hw1).wpOp hi (λw' h'=>⟨λ_=>h',wpAnyG_grow _ _ _ _ _ (hw1.trans h') H⟩)
  ·have:=ready_mono hj hji
   rw [H.1] at this
   cases this
 | succ fuel ih =>
  intro listed a w hl hfree hr hy H w1 hw1
  refine ⟨λh=>(by rw [h] at hr; cases hr),λj hj=>?_⟩
  by_cases hji:j=i
  ·subst hji; exact (hy.grow hw1).wpOp hi (λw' h'=>⟨λ_=>h',wpAnyG_grow _ _ _ _ _ (hw1.trans h') H⟩)
  ·have h1:=(H w1 hw1).2 j (ready_mono hj hji)
   obtain ⟨hjun,oj,hoj,hall⟩:=mem_ready.1 hj
   have hun:∀ k,listed.getD k true=false→listed.getD k false=true→False:=λk h0 h1=>by
    rcases Nat.lt_or_ge k listed.size with h' | h'
    ·simp [h'] at h0 h1; rw [h0] at h1; cases h1
    ·simp [Array.getElem?_eq_none h'] at h1
   have hbj:bs j=false:=by
    cases hb:bs j with
    | false=>rfl
    | true =>
     obtain ⟨e,he,hbd,ho⟩:=hbs j oj hoj hb
     have h2:=hall e he hbd
     rcases ho with ho | ho
     ·rw [ho] at h2; exact (hun i (mem_ready.1 hr).1 h2).elim
     ·exact (hun e.on (hl e.on ho) h2).elim
   have hexj:ex j=false:=by
    cases hxj:ex j with
    | false=>rfl
    | true=>rw [hex j oj hoj hxj] at hbj; cases hbj
   have h2:=wpOp_putG hoj (hfree j oj hoj hji hjun hbj) (λcs b=>hsel i oi cs b hi) (λcs b=>hsel j oj cs b hoj) hQ hy h1
   have hl':∀ k,bs k=true→(listed.setIfInBounds j true).getD k true=false:=λk hk=>by
    have hjk:j≠k:=λe=>by rw [← e,hbj] at hk; cases hk
    rw [getD_set_ne true hjk]; exact hl k hk
   have hfree':∀ k ok,ops[k]? = some ok→k≠i→(listed.setIfInBounds j true).getD k true=false→bs k=false→oi.apart ops ok=true:=λk ok hk hki hun hno=>by
    refine hfree k ok hk hki ?_ hno
    by_cases hjk:j=k
    ·subst hjk; exact hjun
    ·rw [getD_set_ne true hjk] at hun; exact hun
   refine wpOp_mono (λa' w' h3=>⟨h3.2.1,ih (listed.setIfInBounds j true) a' w' hl' hfree' (ready_mono hr (Ne.symm hji)) (h3.1.grow (hw1.trans (h3.2.1 hexj))) ?_⟩) h2
   rw [Array.setIfInBounds_comm _ _ hji]
   exact h3.2.2
def canTakeB (md:Region.Mode) (ops:Array Oper) (listed:Array Bool) (ex:Nat→Bool) (i:Nat) (bs:List Nat):Bool :=
 Region.noSelect ops && (Region.ready md ops listed).contains i && (bs.all λk=>!(listed.getD k true)) &&
 (match ops[i]? with
  | none=>false
  | some oi=>(List.range ops.size).all λk=>match ops[k]? with
   | none=>true
   | some ok=>(!(bs.contains k) || ok.after.any λe=>Region.binds md e && (e.on == i || bs.contains e.on)) && (!(ex k) || bs.contains k) && (k == i || listed.getD k true || bs.contains k || oi.apart ops ok))
theorem wpAnyG_takeB (i:Nat) (bs:List Nat) {oi:Oper} {v:Value} {fuel:Nat} {listed:Array Bool} {a:Act} {w:World} (hi0:ops.toList[i]? = some oi) (hc:canTakeB md ops listed ex i bs=true)
  (hQ:∀ c a w,Q (.panic c) (a.put oi.dst v) w→Q (.panic c) a w) (hy:YieldsG P ops oi v a w)
  (h:wpAnyG P md ops Q ex fuel (listed.setIfInBounds i true) (a.put oi.dst v) w):wpAnyG P md ops Q ex (fuel+1) listed a w:=by
 have hi:ops[i]? = some oi:=by simpa using hi0
 unfold canTakeB at hc
 simp only [hi,Bool.and_eq_true] at hc
 obtain ⟨⟨⟨h1,h2⟩,h3⟩,h4⟩:=hc
 rw [List.all_eq_true] at h3 h4
 have h5:∀ k ok,ops[k]? = some ok→_:=λk ok hk=>by
  have h:=h4 k (List.mem_range.2 (Array.getElem?_eq_some_iff.1 hk).1)
  simp only [hk,Bool.and_eq_true] at h
  exact h
 refine wpAnyG_firstB (λk=>bs.contains k) hi (Region.noSelect_spec h1) hQ (λk ok hk he=>?_) (λk ok hk hb=>?_) fuel listed a w (λk hk=>?_) (λj oj hj hji hun hb=>?_) (by simpa using h2) hy h
 ·have h:=(h5 k ok hk).1.2
  simpa [he] using h
 ·have h:=(h5 k ok hk).1.1
  simp only [hb,Bool.not_true,Bool.false_or] at h
  rw [Array.any_eq_true'] at h
  obtain ⟨e,hm,hx⟩:=h
  simp only [Bool.and_eq_true,Bool.or_eq_true,beq_iff_eq] at hx
  exact ⟨e,hm,hx.1,hx.2⟩
 ·have h:=h3 k (by simpa using hk)
  simpa using h
 ·have h:=(h5 j oj hj).2
  simp only [hun,hb,Bool.or_false,Bool.or_eq_true,beq_iff_eq] at h
  exact h.resolve_left hji
end
end
end
section
namespace Sy
open Go.RowKit
section
variable {P:Program} {ops:Array Oper} {Q:Exit→Act→World→Prop} {md:Region.Mode} {l n:Nat}
theorem rowsIn_of {row:String} {args:Array Value} {w:World} {R:Value→World→Prop} (h:Rows P row args w R):RowsIn (Fence.wide.inRound l) n P row args w R :=
 λc cs _=>let ⟨v,w',r,s⟩:=h c cs; ⟨v,w',r,stepsIn_wide.2 s⟩
theorem callsIn_of {f:FuncId} {args:Array Value} {w:World} {R:Ending→World→Prop} (h:Calls P f args w R):CallsIn (Fence.wide.inRound l) n P f args w R:=CallsIn.inRound l (callsIn_wide.2 h)
theorem operIn_of {o:Oper} {a:Act} {w:World} {K:Act→World→Prop} (hd:∀ c,o.op≠.defer c) (h:o.wp P a w K Q):o.wpIn (Fence.wide.inRound l) n P a w K Q:=by
 unfold Oper.wpIn
 refine ⟨λ_ _=>trivial,?_⟩
 rw [Oper.semAt_eq _ _ _ hd]
 unfold Oper.wp at h
 generalize (execOp a.eval o).run P w=r at *
 cases r with
 | ok x w' =>
  cases x <;> simp only [Oper.upon,Oper.uponIn] at h ⊢ <;> first
   | exact h
   | exact ⟨λe=>by simp [Fence.wide] at e,callsIn_of h⟩
   | exact ⟨λe=>by simp [Fence.wide] at e,rowsIn_of h⟩
   | exact h.elim
 | halt x w'=>cases x <;> simp only [Oper.upon,Oper.uponIn] at h ⊢ <;> exact h
def noDefer (ops:Array Oper):Bool:=ops.all λo=>match o.op with | .defer _=>false | _=>true
theorem noDefer_spec (h:noDefer ops=true) {i:Nat} {o:Oper} (hi:ops[i]? = some o):∀ c,o.op≠.defer c:=λc e=>by
 unfold noDefer at h
 rw [Array.all_eq_true'] at h
 have:=h o (Array.mem_of_getElem? hi)
 rw [e] at this
 cases this
theorem listIn_of (hq:¬ LetsOut Q):∀ (rest:List Oper),(∀ o∈rest, ∀ c,o.op≠.defer c)→∀ (a:Act) (w:World),wpList P ops Q rest a w→wpListIn (Fence.wide.inRound l) n P ops Q rest a w
 | [],_,_,_,h=>h
 | o::rest,hd,a,w,h=>by
  unfold wpList at h
  unfold wpListIn
  split
  ·rename_i hw
   simp only [hw,if_true] at h
   rcases h with h | h
   ·exact Oper.wpIn_mono (λa w h'=>listIn_of hq rest (λo ho=>hd o (by simp [ho])) a w h') (operIn_of (hd o (by simp)) h)
   ·exact absurd h.2 hq
  ·rename_i hw
   simp only [hw] at h
   exact ⟨λ_ _=>trivial,listIn_of hq rest (λo ho=>hd o (by simp [ho])) _ _ h⟩
theorem round_region_L {id:Nat} {a:Act} {w:World} (hq:¬ LetsOut Q) (hd:noDefer ops=true) (h:wpList P ops Q ops.toList a w):(Code.region id ops false).wpIn (Fence.wide.inRound l) n P Q a w :=
 wpIn_region_list (listIn_of hq _ (λo ho=>by
  obtain ⟨i,hi⟩:=List.mem_iff_getElem?.1 ho
  exact noDefer_spec hd (by simpa using hi)) _ _ h)
end
end Sy
end
section
namespace Sy
open Go.RowKit
abbrev Slots:=List (Nat×Value)
abbrev Blocks:=List (Nat×TypeId×Array Value)
structure Base where
 world:World
 fz:World
 ds:List Deferred
 fence:Fence
 room:Nat
abbrev Base.of (w:World):Base:=⟨w,w,[],Fence.wide,9⟩
def Fr (ds:List Deferred) (a:Act) (n:Nat) (F:Slots):Prop:=a.defers=ds∧a.tmps.size=n∧∀ i v,F.lookup i=some v→a.tmps[i]? = some v
def evF (F:Slots):Operand→Value
 | .tmp t=>(F.lookup t).getD undef
 | .const v=>v
 | .global g=>.pointer (some ⟨g,0,none⟩)
 | .func f=>.func (.func f) #[] #[]
def inF (F:Slots):Operand→Bool
 | .tmp t=>(F.lookup t).isSome
 | _=>true
def putF (F:Slots):Option Tmp→Value→Slots
 | none,_=>F
 | some d,v=>(d,v)::F
def fits (n:Nat):Option Tmp→Bool
 | none=>true
 | some d=>decide (d<n)
theorem Fr.eval {ds:List Deferred} {a:Act} {n:Nat} {F:Slots} (h:Fr ds a n F) {x:Operand} (hx:inF F x=true):a.eval x=evF F x:=by
 cases x with
 | tmp t =>
  obtain ⟨v,hv⟩:=Option.isSome_iff_exists.1 hx
  have:=h.2.2 t v hv
  show a.tmps.getD t undef=(F.lookup t).getD undef
  rw [hv]
  simp [Array.getD_eq_getD_getElem?,this]
 | const v=>rfl
 | global g=>rfl
 | func f=>rfl
theorem Fr.put {ds:List Deferred} {a:Act} {n:Nat} {F:Slots} (h:Fr ds a n F) {d:Option Tmp} (hd:fits n d=true) (v:Value):Fr ds (a.put d v) n (putF F d v):=by
 cases d with
 | none=>exact h
 | some d =>
  have hd':d<n:=of_decide_eq_true hd
  refine ⟨h.1,by simp [Act.put,h.2.1],λi u hi=>?_⟩
  simp only [putF,List.lookup_cons] at hi
  simp only [Act.put]
  by_cases e:i=d
  ·subst e
   simp at hi
   subst hi
   rw [Array.getElem?_setIfInBounds_self_of_lt (by rw [h.2.1]; exact hd')]
  ·have e':(i == d)=false:=by simpa using e
   rw [e'] at hi
   rw [Array.getElem?_setIfInBounds_ne (Ne.symm e)]
   exact h.2.2 i u hi
theorem Fr.less {ds:List Deferred} {a:Act} {n:Nat} {F G:Slots} (h:Fr ds a n F) (hG:∀ i v,G.lookup i=some v→F.lookup i=some v):Fr ds a n G:=⟨h.1,h.2.1,λi v hi=>h.2.2 i v (hG i v hi)⟩
def stays:Obj→Bool
 | .cells _ _ fr=>fr != (0,0)
 | _=>true
structure St (w0:Base) (w:World) (L:Blocks):Prop where
 below:Below w0.world.heap.size w0.world w
 blk:∀ g t cs,(g,t,cs)∈L→w0.world.heap.size≤g∧Blk w g t cs
 apart:(L.map (·.1)).Nodup
 size:w0.fz.heap.size≤w.heap.size
 non:∀ (k:Nat) (o:Obj),w0.world.heap.size≤k→w0.fz.heap[k]? = some o→stays o=true→w.heap[k]? = some o
theorem St.start (w:World):St (Base.of w) w []:=⟨Below.refl _ _,(λ_ _ _ h=>by cases h),List.Pairwise.nil,Nat.le_refl _,λ_ _ _ h _=>h⟩
theorem St.gr {w0:Base} {w w':World} {L:Blocks} (h:St w0 w L) (hg:Gr w w'):St w0 w' L :=
 ⟨Below.gr h.below hg,λg t cs hm=>⟨(h.blk g t cs hm).1,hg.blk (h.blk g t cs hm).2⟩,h.apart,Nat.le_trans h.size hg.size,λk o hk ho hc=>by
  have h1:=h.non k o hk ho hc
  exact (hg.block k (Array.getElem?_eq_some_iff.1 h1).1).trans h1⟩
theorem St.get {w0:Base} {w:World} {L:Blocks} (h:St w0 w L) {i g:Nat} {t:TypeId} {cs:Array Value} (hi:L[i]? = some (g,t,cs)):Blk w g t cs:=(h.blk g t cs (List.mem_of_getElem? hi)).2
theorem St.add {w0:Base} {w w':World} {L:Blocks} (h:St w0 w L) (hg:Gr w w') {g:Nat} {t:TypeId} {cs:Array Value} (hn:w.heap.size≤g) (hb:Blk w' g t cs):St w0 w' (L++[(g,t,cs)]):=by
 have h':=h.gr hg
 refine ⟨h'.below,λg' t' cs' hm=>?_,?_,h'.size,h'.non⟩
 ·rcases List.mem_append.1 hm with hm | hm
  ·exact h'.blk g' t' cs' hm
  ·obtain ⟨rfl,rfl,rfl⟩:g'=g∧t'=t∧cs'=cs:=by simpa using hm
   exact ⟨Nat.le_trans h.below.size hn,hb⟩
 ·rw [List.map_append,List.nodup_append]
  refine ⟨h.apart,by simp,λx hx y hy e=>?_⟩
  obtain ⟨⟨g',t',cs'⟩,hm,rfl⟩:=List.mem_map.1 hx
  have hlt:=(h.blk g' t' cs' hm).2.lt
  have:y=g:=by simpa using hy
  omega
theorem St.set {w0:Base} {w w':World} {L:Blocks} (h:St w0 w L) {i g:Nat} {t:TypeId} {cs cs':Array Value} (hi:L[i]? = some (g,t,cs)) (hg:w.grownBy w' (some g)) (hn:Blk w' g t cs'):St w0 w' (L.set i (g,t,cs')):=by
 have hil:=(List.getElem?_eq_some_iff.1 hi).1
 have hie:=(List.getElem?_eq_some_iff.1 hi).2
 have hbk:=h.blk g t cs (List.mem_of_getElem? hi)
 refine ⟨h.below.trans (below_of_only hg h.below.size hbk.1),λg1 t1 c1 hm=>?_,?_,Nat.le_trans h.size hg.size,λk o hk ho hc=>?_⟩
 ·obtain ⟨j,hj⟩:=List.getElem?_of_mem hm
  rw [List.getElem?_set] at hj
  by_cases e:i=j
  ·subst e
   rw [if_pos rfl,if_pos hil] at hj
   obtain ⟨rfl,rfl,rfl⟩:g=g1∧t=t1∧cs'=c1:=by simpa using hj
   exact ⟨hbk.1,hn⟩
  ·rw [if_neg e] at hj
   have hm1:=h.blk g1 t1 c1 (List.mem_of_getElem? hj)
   refine ⟨hm1.1,hm1.2.grown hg (λeg=>e ?_)⟩
   obtain rfl:g1=g:=by injection eg
   have hjl:=(List.getElem?_eq_some_iff.1 hj).1
   have hje:=(List.getElem?_eq_some_iff.1 hj).2
   have hp:=List.pairwise_iff_getElem.1 h.apart
   rcases Nat.lt_trichotomy i j with hlt | he | hlt
   ·exact (hp i j (by simpa using hil) (by simpa using hjl) hlt (by simp [hie,hje])).elim
   ·exact he
   ·exact (hp j i (by simpa using hjl) (by simpa using hil) hlt (by simp [hie,hje])).elim
 ·rw [List.map_set]
  have:(L.map (·.1)).set i g=L.map (·.1):=by
   apply List.ext_getElem?
   intro j
   rw [List.getElem?_set]
   by_cases e:i=j
   ·subst e
    rw [if_pos rfl,if_pos (by simpa using hil)]
    simp [hi]
   ·rw [if_neg e]
  show ((L.map (·.1)).set i g).Nodup
  rw [this]
  exact h.apart
 ·have h1:=h.non k o hk ho hc
  refine (hg.block k (Array.getElem?_eq_some_iff.1 h1).1 (λe=>?_)).trans h1
  obtain rfl:k=g:=by injection e
  have h2:=hbk.2
  unfold Blk at h2
  rw [h2] at h1
  cases h1
  simp [stays] at hc
theorem St.less {w0:Base} {w:World} {L M:Blocks} (h:St w0 w L) (hs:M.Sublist L):St w0 w M :=
 ⟨h.below,λg t cs hm=>h.blk g t cs (hs.subset hm),h.apart.sublist (hs.map _),h.size,h.non⟩
def wantedF (ops:Array Oper) (F:Slots) (o:Oper):Option Bool :=
 match o.guard with
 | none=>some true
 | some (j,want)=>match (ops[j]?).bind (·.dst) with
  | none=>some false
  | some t=>match F.lookup t with
   | some (.bool b)=>some (b == want)
   | some _=>some false
   | none=>none
theorem Fr.wanted {ds:List Deferred} {a:Act} {n:Nat} {F:Slots} (h:Fr ds a n F) {ops:Array Oper} {o:Oper} {b:Bool} (hw:wantedF ops F o=some b):Region.wanted o (yielded ops a.tmps)=b:=by
 unfold wantedF at hw
 unfold Region.wanted
 cases hg:o.guard with
 | none=>rw [hg] at hw; simpa using hw
 | some jw =>
  obtain ⟨j,want⟩:=jw
  rw [hg] at hw
  simp only at hw ⊢
  cases hd:(ops[j]?).bind (·.dst) with
  | none =>
   rw [hd] at hw
   simp only [yielded,hd,Option.bind_none] at hw ⊢
   simpa using hw
  | some t =>
   rw [hd] at hw
   simp only at hw
   cases hl:F.lookup t with
   | none=>rw [hl] at hw; cases hw
   | some v =>
    have hv:=h.2.2 t v hl
    rw [hl] at hw
    simp only [yielded,hd,Option.bind_some,hv]
    cases v <;> simp at hw ⊢ <;> exact hw
def good (ops:Array Oper) (n:Nat) (F:Slots) (o:Oper):Bool :=
 (wantedF ops F o == some true) && o.op.operands.all (inF F) && fits n o.dst && (match o.op with | .select ..=>false | _=>true)
theorem good_spec {ops:Array Oper} {n:Nat} {F:Slots} {o:Oper} (h:good ops n F o=true):wantedF ops F o=some true∧(∀ x∈o.op.operands,inF F x=true)∧fits n o.dst=true∧∀ cs b,o.op≠.select cs b:=by
 unfold good at h
 simp only [Bool.and_eq_true,beq_iff_eq] at h
 obtain ⟨⟨⟨h1,h2⟩,h3⟩,h4⟩:=h
 refine ⟨h1,Array.all_eq_true_iff_forall_mem.1 h2,h3,λcs b e=>?_⟩
 rw [e] at h4
 cases h4
theorem good_exec {ops:Array Oper} {n:Nat} {F:Slots} {o:Oper} (h:good ops n F o=true) {ds:List Deferred} {a:Act} (ha:Fr ds a n F):execOp a.eval o=execOp (evF F) o :=
 execOp_congr o (good_spec h).2.2.2 λx hx=>ha.eval ((good_spec h).2.1 x (by simpa using hx))
def Quiet (P:Program) (w0:Base) (F:Slots) (L:Blocks) (o:Oper) (v:Value):Prop:=∀ w,St w0 w L→Gives P (execOp (evF F) o) v w
theorem Quiet.pure {P:Program} {w0:Base} {F:Slots} {L:Blocks} {o:Oper} {v:Value} (h:∀ w,(execOp (evF F) o).run P w=.ok (.value v) w):Quiet P w0 F L o v:=λw _=>by
 unfold Gives; rw [h w]; exact ⟨rfl,Gr.refl _⟩
theorem Quiet.call {P:Program} {w0:Base} {F:Slots} {L:Blocks} {o:Oper} {v:Value} (f:FuncId) (args:Array Value) (he:∀ w,(execOp (evF F) o).run P w=.ok (.enter f args) w)
  (h:∀ w,Calls P f args w λe w'=>e=.returned v∧Below w.heap.size w w'):Quiet P w0 F L o v:=λw _=>by
 unfold Gives; rw [he w]; exact h w
theorem Quiet.load {P:Program} {w0:Base} {F:Slots} {L:Blocks} {o:Oper} (i g f k:Nat) (t ty:TypeId) (cs:Array Value) (d:TypeDesc) (x:Operand) (ho:o.op=.load ty x) (hx:evF F x=.pointer (some ⟨g,f,none⟩))
  (hL:L[i]? = some (g,t,cs)) (hu:P.underlying ty=some d) (hd:d.isRow=true) (hi:(P.info? ty).map (·.size)=some k) (v:Value) (hv:Value.agg ((cs.toList.drop f).take k).toArray=v) (hk:f+k≤cs.size):Quiet P w0 F L o v:=λw hw=>by
 have hb:=hw.get hL
 have hl:=run_loadVar_mid (P:=P) w g f ty ((cs.toList.drop f).take k) d (λj u hj=>by
  rw [hb.cell]
  have hlt:j<k:=by
   have:=(List.getElem?_eq_some_iff.1 hj).1
   simp at this; omega
  rw [List.getElem?_take_of_lt hlt,List.getElem?_drop] at hj
  simpa using hj) hu hd (by rw [hi]; simp; omega)
 unfold Gives execOp
 simp only [ho,hx,Instr.loadAt,Instr.sureAddr,Sem.run_bind,Sem.run_pure,Result.andThen_ok,hl]
 exact ⟨hv,Gr.refl _⟩
theorem Quiet.cell {P:Program} {w0:Base} {F:Slots} {L:Blocks} {o:Oper} (i g f:Nat) (t ty:TypeId) (cs:Array Value) (d:TypeDesc) (x:Operand) (ho:o.op=.load ty x) (hx:evF F x=.pointer (some ⟨g,f,none⟩))
  (hL:L[i]? = some (g,t,cs)) (hu:P.underlying ty=some d) (hd:d.isRow=false) (v:Value) (hv:cs[f]? = some v):Quiet P w0 F L o v:=λw hw=>by
 have hb:=hw.get hL
 have hc:w.cell? ⟨g,f,none⟩=some v:=(hb.cell f).trans hv
 have ha:(isAgg ty).run P w=.ok false w:=by
  cases d <;> first | (cases hd; done) | simp [isAgg,underlying,hu]
 unfold Gives execOp
 simp only [ho,hx,Instr.loadAt,Instr.sureAddr,Sem.run_bind,Sem.run_pure,Result.andThen_ok,loadVar,ha,Bool.false_eq_true,if_false,run_load,hc]
 exact ⟨trivial,Gr.refl _⟩
section
variable {P:Program} {w0:Base} {n:Nat}
def wpC (P:Program) (w0:Base) (n:Nat) (Q:Exit→Act→World→Prop) (F:Slots) (L:Blocks) (c:Code):Prop:=∀ a w,Fr w0.ds a n F→St w0 w L→c.wpIn w0.fence w0.room P Q a w
def wpS (P:Program) (w0:Base) (n:Nat) (ops:Array Oper) (Q:Exit→Act→World→Prop) (F:Slots) (L:Blocks) (l:List Oper):Prop:=∀ a w,Fr w0.ds a n F→St w0 w L→wpList P ops Q l a w
def wpD (P:Program) (w0:Base) (n:Nat) (ops:Array Oper) (Q:Exit→Act→World→Prop) (ex:Nat→Bool) (F:Slots) (L:Blocks) (fuel:Nat) (listed:Array Bool):Prop:=∀ a w,Fr w0.ds a n F→St w0 w L→wpAnyG P .any ops Q ex fuel listed a w
def X (w0:Base) (n:Nat) (Q:Exit→Act→World→Prop) (F:Slots) (L:Blocks) (e:Exit):Prop:=∀ a w,Fr w0.ds a n F→St w0 w L→Q e a w
variable {Q:Exit→Act→World→Prop} {F:Slots} {L:Blocks}
theorem seq {x y:Code} (h:wpC P w0 n (Exit.then (y.wpIn w0.fence w0.room P Q) Q) F L x):wpC P w0 n Q F L (.seq x y):=λa w ha hw=>wpIn_seq (h a w ha hw)
theorem then_ {y:Code} (h:wpC P w0 n Q F L y):X w0 n (Exit.then (y.wpIn w0.fence w0.room P Q) Q) F L .normal:=h
theorem then_ret {K:Act→World→Prop} (h:X w0 n Q F L .ret):X w0 n (Exit.then K Q) F L .ret:=h
theorem then_exit {K:Act→World→Prop} {i:Nat} (h:X w0 n Q F L (.exit i)):X w0 n (Exit.then K Q) F L (.exit i):=h
theorem block {i:Nat} {c:Code} (h:wpC P w0 n (Exit.inBlock i Q) F L c):wpC P w0 n Q F L (.block i c):=λa w ha hw=>wpIn_block (h a w ha hw)
theorem in_ {i:Nat} (h:X w0 n Q F L .normal):X w0 n (Exit.inBlock i Q) F L .normal:=h
theorem in_ret {i:Nat} (h:X w0 n Q F L .ret):X w0 n (Exit.inBlock i Q) F L .ret:=h
theorem in_exit {i:Nat} (h:X w0 n Q F L .normal):X w0 n (Exit.inBlock i Q) F L (.exit i):=λa w ha hw=>by
 show if i=i then Q .normal a w else Q (.exit i) a w
 rw [if_pos rfl]; exact h a w ha hw
theorem in_pass {i j:Nat} (hne:j≠i) (h:X w0 n Q F L (.exit j)):X w0 n (Exit.inBlock i Q) F L (.exit j):=λa w ha hw=>by
 show if j=i then Q .normal a w else Q (.exit j) a w
 rw [if_neg hne]; exact h a w ha hw
theorem skip (h:X w0 n Q F L .normal):wpC P w0 n Q F L .skip:=λa w ha hw=>wpIn_skip (h a w ha hw)
theorem ret (h:X w0 n Q F L .ret):wpC P w0 n Q F L .ret:=λa w ha hw=>wpIn_ret (h a w ha hw)
theorem exit {i:Nat} (h:X w0 n Q F L (.exit i)):wpC P w0 n Q F L (.exit i):=λa w ha hw=>wpIn_exit (h a w ha hw)
theorem cond_t {c:Operand} {x y:Code} (hi:inF F c=true) (hc:evF F c=.bool true) (h:wpC P w0 n Q F L x):wpC P w0 n Q F L (.cond c x y):=λa w ha hw=>wpIn_cond_true ((ha.eval hi).trans hc) (h a w ha hw)
theorem cond_f {c:Operand} {x y:Code} (hi:inF F c=true) (hc:evF F c=.bool false) (h:wpC P w0 n Q F L y):wpC P w0 n Q F L (.cond c x y):=λa w ha hw=>wpIn_cond_false ((ha.eval hi).trans hc) (h a w ha hw)
variable {ops:Array Oper} {o:Oper} {l:List Oper}
theorem region {i:Nat} (h:wpS P w0 n ops Q F L ops.toList) (hf:w0.fence=Fence.wide:=by rfl):wpC P w0 n Q F L (.region i ops false):=λa w ha hw=>by
 rw [hf]
 exact wpIn_wide.2 (wp_region_list (h a w ha hw))
theorem regionR {i:Nat} (hq:¬ LetsOut Q) (hd:noDefer ops=true) (hf:∃ l,w0.fence=Fence.wide.inRound l) (h:wpS P w0 n ops Q F L ops.toList):wpC P w0 n Q F L (.region i ops false):=λa w ha hw=>by
 obtain ⟨l,hf⟩:=hf
 rw [hf]
 exact round_region_L hq hd (h a w ha hw)
theorem nil (h:X w0 n Q F L .normal):wpS P w0 n ops Q F L []:=λa w ha hw=>wpList_nil (h a w ha hw)
theorem step (hg:good ops n F o=true) (v:Value) (hq:Quiet P w0 F L o v) (h:wpS P w0 n ops Q (putF F o.dst v) L l):wpS P w0 n ops Q F L (o::l):=λa w ha hw=>by
 obtain ⟨g1,_,g3,_⟩:=good_spec hg
 refine wpList_step λK hK=>?_
 rw [if_pos (ha.wanted g1)]
 have h0:=hq w hw
 have he:=good_exec hg ha
 unfold Gives at h0
 unfold Oper.wp
 rw [he]
 generalize (execOp (evF F) o).run P w=r at *
 cases r with
 | ok x w' =>
  cases x <;> simp only [Oper.upon] at h0 ⊢
  case value u=>rw [h0.1]; exact hK _ _ (h _ _ (ha.put g3 v) (hw.gr h0.2))
  case skip=>rw [← h0.1]; exact hK _ _ (h _ _ (ha.put g3 v) (hw.gr h0.2))
  case enter f args =>
   refine Calls.mono h0 λe w'' he=>?_
   rw [he.1]
   exact hK _ _ (h _ _ (ha.put g3 v) (hw.gr he.2))
 | halt x w'=>cases x <;> exact h0.elim
theorem pass (hg:wantedF ops F o=some false) (hd:fits n o.dst=true) (h:wpS P w0 n ops Q (putF F o.dst undef) L l):wpS P w0 n ops Q F L (o::l):=λa w ha hw=>by
 refine wpList_step λK hK=>?_
 rw [if_neg (by rw [ha.wanted hg]; exact Bool.false_ne_true)]
 exact hK _ _ (h _ _ (ha.put hd undef) hw)
def Makes (P:Program) (F:Slots) (o:Oper) (t:TypeId) (cs:Array Value) (val:Nat→Value):Prop:=∀ w,(execOp (evF F) o).run P w=.ok (.value (val w.heap.size)) (w.alloc (.cells cs t))
def ptr (g:Nat):Value:=.pointer (some ⟨g,0,none⟩)
theorem make (hg:good ops n F o=true) (t:TypeId) (cs:Array Value) (val:Nat→Value) (hm:Makes P F o t cs val) (h:∀ g,wpS P w0 n ops Q (putF F o.dst (val g)) (L++[(g,t,cs)]) l):wpS P w0 n ops Q F L (o::l):=λa w ha hw=>by
 obtain ⟨g1,_,g3,_⟩:=good_spec hg
 refine wpList_step λK hK=>?_
 rw [if_pos (ha.wanted g1)]
 unfold Oper.wp
 rw [good_exec hg ha,hm w]
 exact hK _ _ (h w.heap.size _ _ (ha.put g3 _) (hw.add (gr_alloc w _) (Nat.le_refl _) (Blk.new w t cs)))
def Writes (P:Program) (F:Slots) (o:Oper) (g:Nat) (t:TypeId) (cs cs':Array Value):Prop :=
 ∀ w,Blk w g t cs→∃ w',(execOp (evF F) o).run P w=.ok .skip w'∧w.grownBy w' (some g)∧Blk w' g t cs'
theorem Writes.store {F:Slots} {o:Oper} (f:Nat) {g:Nat} {t:TypeId} {cs cs':Array Value} (ty:TypeId) (cells:Array Value) (x y:Operand) (ho:o.op=.store ty x y) (hx:evF F x=.pointer (some ⟨g,f,none⟩)) (hy:evF F y=.agg cells)
  (hi:(P.info? ty).map (·.size)=some cells.size) (hk:f+cells.size≤cs.size) (h1:cells.all (·.oneCell')=true) (hcs:setAll cs f cells.toList=cs'):Writes P F o g t cs cs' :=
 λw hb=>⟨w.setCells g f cells.toList,by
  unfold execOp
  simp only [ho,hx,hy,run_storeAt_mid w g f ty cells (hb.there f cells.size hk) hi h1,Sem.run_bind,Sem.run_pure,Result.andThen_ok],
  only_setCells cells.toList f w (World.grownBy.refl w (some g)),
  hcs ▸ Blk.setCells cells.toList f w cs hb⟩
theorem write (hg:good ops n F o=true) (i g:Nat) (t:TypeId) (cs cs':Array Value) (hL:L[i]? = some (g,t,cs)) (hm:Writes P F o g t cs cs') (h:wpS P w0 n ops Q (putF F o.dst undef) (L.set i (g,t,cs')) l):wpS P w0 n ops Q F L (o::l):=λa w ha hw=>by
 obtain ⟨g1,_,g3,_⟩:=good_spec hg
 obtain ⟨w',h1,h2,h3⟩:=hm w (hw.get hL)
 refine wpList_step λK hK=>?_
 rw [if_pos (ha.wanted g1)]
 unfold Oper.wp
 rw [good_exec hg ha,h1]
 exact hK _ _ (h _ _ (ha.put g3 _) (hw.set hL h2 h3))
variable {ex:Nat→Bool} {fuel:Nat} {listed:Array Bool}
theorem regionD {i:Nat} (ex:Nat→Bool) (hm:P.follows .mixedOrders=true) (h:wpD P w0 n ops Q ex F L ops.size (Array.replicate ops.size false)) (hf:w0.fence=Fence.wide:=by rfl):wpC P w0 n Q F L (.region i ops true):=λa w ha hw=>by
 rw [hf]
 exact wpIn_wide.2 (wp_region_G ex hm (h a w ha hw))
theorem doneD (hr:Region.ready .any ops listed=[]) (h:X w0 n Q F L .normal):wpD P w0 n ops Q ex F L fuel listed:=λa _ ha hw=>wpAnyG_done hr λw1 h1=>h a w1 ha (hw.gr h1)
theorem quiet_yields {o:Oper} {v:Value} {a:Act} {w:World} (hg:good ops n F o=true) (hq:Quiet P w0 F L o v) (ha:Fr w0.ds a n F) (hw:St w0 w L):YieldsG P ops o v a w :=
 .inl ⟨ha.wanted (good_spec hg).1,λw1 h1=>by rw [good_exec hg ha]; exact hq w1 (hw.gr h1)⟩
theorem stepD (i:Nat) {oi:Oper} (hi0:ops.toList[i]? = some oi) (hc:canTake .any ops listed ex i=true) (hQ:∀ c v a w,Q (.panic c) (a.put oi.dst v) w→Q (.panic c) a w)
  (hg:good ops n F oi=true) (v:Value) (hq:Quiet P w0 F L oi v) (h:wpD P w0 n ops Q ex (putF F oi.dst v) L fuel (listed.setIfInBounds i true)):wpD P w0 n ops Q ex F L (fuel+1) listed:=λ_ _ ha hw =>
 wpAnyG_take i hi0 hc (λc=>hQ c v) (quiet_yields hg hq ha hw) (h _ _ (ha.put (good_spec hg).2.2.1 v) hw)
theorem stepDB (i:Nat) (bs:List Nat) {oi:Oper} (hi0:ops.toList[i]? = some oi) (hc:canTakeB .any ops listed ex i bs=true) (hQ:∀ c v a w,Q (.panic c) (a.put oi.dst v) w→Q (.panic c) a w)
  (hg:good ops n F oi=true) (v:Value) (hq:Quiet P w0 F L oi v) (h:wpD P w0 n ops Q ex (putF F oi.dst v) L fuel (listed.setIfInBounds i true)):wpD P w0 n ops Q ex F L (fuel+1) listed:=λ_ _ ha hw =>
 wpAnyG_takeB i bs hi0 hc (λc=>hQ c v) (quiet_yields hg hq ha hw) (h _ _ (ha.put (good_spec hg).2.2.1 v) hw)
theorem stepDA (i:Nat) {oi:Oper} (hi0:ops.toList[i]? = some oi) (hc:canTakeA .any ops listed i=true) (hQ:∀ c v a w,Q (.panic c) (a.put oi.dst v) w→Q (.panic c) a w)
  (hg:good ops n F oi=true) (v:Value) (hq:∀ w,(execOp (evF F) oi).run P w=.ok (.value v) w) (h:wpD P w0 n ops Q ex (putF F oi.dst v) L fuel (listed.setIfInBounds i true)):wpD P w0 n ops Q ex F L (fuel+1) listed:=λa w ha hw =>
 wpAnyG_takeA i hi0 hc (λc=>hQ c v) (λw'=>.inl ⟨ha.wanted (good_spec hg).1,λw1 _=>by rw [good_exec hg ha]; unfold Gives; rw [hq w1]; exact ⟨rfl,Gr.refl _⟩⟩) (h _ _ (ha.put (good_spec hg).2.2.1 v) hw)
theorem passD (i:Nat) {oi:Oper} (hi0:ops.toList[i]? = some oi) (hc:canTake .any ops listed ex i=true) (hQ:∀ c v a w,Q (.panic c) (a.put oi.dst v) w→Q (.panic c) a w)
  (hg:wantedF ops F oi=some false) (hd:fits n oi.dst=true) (h:wpD P w0 n ops Q ex (putF F oi.dst undef) L fuel (listed.setIfInBounds i true)):wpD P w0 n ops Q ex F L (fuel+1) listed:=λ_ _ ha hw =>
 wpAnyG_take i hi0 hc (λc=>hQ c undef) (YieldsG.skip (ha.wanted hg)) (h _ _ (ha.put hd undef) hw)
theorem makeD (i:Nat) {oi:Oper} (hi0:ops.toList[i]? = some oi) (hr:Region.ready .any ops listed=[i]) (hg:good ops n F oi=true) (t:TypeId) (cs:Array Value) (val:Nat→Value) (hm:Makes P F oi t cs val)
  (h:∀ g,wpD P w0 n ops Q ex (putF F oi.dst (val g)) (L++[(g,t,cs)]) fuel (listed.setIfInBounds i true)):wpD P w0 n ops Q ex F L (fuel+1) listed:=λa w ha hw =>
 wpAnyG_sole i hi0 hr (ha.wanted (good_spec hg).1) λw1 h1 K hK=>by
  unfold Oper.wp
  rw [good_exec hg ha,hm w1]
  exact hK _ _ (λ_=>gr_alloc w1 _) (h w1.heap.size _ _ (ha.put (good_spec hg).2.2.1 _) ((hw.gr h1).add (gr_alloc w1 _) (Nat.le_refl _) (Blk.new w1 t cs)))
theorem writeD (k:Nat) {oi:Oper} (hi0:ops.toList[k]? = some oi) (hr:Region.ready .any ops listed=[k]) (hex:ex k=true) (hg:good ops n F oi=true) (i g:Nat) (t:TypeId) (cs cs':Array Value) (hL:L[i]? = some (g,t,cs)) (hm:Writes P F oi g t cs cs')
  (h:wpD P w0 n ops Q ex (putF F oi.dst undef) (L.set i (g,t,cs')) fuel (listed.setIfInBounds k true)):wpD P w0 n ops Q ex F L (fuel+1) listed:=λa w ha hw =>
 wpAnyG_sole k hi0 hr (ha.wanted (good_spec hg).1) λw1 h1 K hK=>by
  obtain ⟨w',e1,e2,e3⟩:=hm w1 ((hw.gr h1).get hL)
  unfold Oper.wp
  rw [good_exec hg ha,e1]
  exact hK _ _ (λe=>by rw [hex] at e; cases e) (h _ _ (ha.put (good_spec hg).2.2.1 _) ((hw.gr h1).set hL e2 e3))
def Gets (w0:World) (v:Value) (e:Ending) (w':World):Prop:=e=.returned v∧Below w0.heap.size w0 w'
def slotsOf:Nat→List Value→Slots
 | _,[]=>[]
 | i,v::r=>(i,v)::slotsOf (i+1) r
theorem lookup_slotsOf:∀ (l:List Value) (i j:Nat) (v:Value),(slotsOf i l).lookup j=some v→i≤j∧l[j - i]? = some v
 | [],_,_,_,h=>by cases h
 | u::r,i,j,v,h=>by
  simp only [slotsOf,List.lookup_cons] at h
  by_cases e:j=i
  ·subst e
   simp at h
   subst h
   exact ⟨Nat.le_refl _,by simp⟩
  ·have e':(j == i)=false:=by simpa using e
   rw [e'] at h
   obtain ⟨h1,h2⟩:=lookup_slotsOf r (i+1) j v h
   refine ⟨by omega,?_⟩
   rw [show j - i=(j - (i+1))+1 by omega]
   simpa using h2
theorem enter {f:FuncId} {fn:Func} {c:Code} {args:List Value} {w:World} {R:Ending→World→Prop} (hf:P.funcs[f]? = some fn) (hb:fn.body=some c) (hn:args.length≤fn.ntmps)
  (h:wpC P (Base.of w) fn.ntmps (bodyPost P fn R) (slotsOf 0 args) [] c):Calls P f args.toArray w R :=
 calls_of_wp hf hb (wpIn_wide.1 (h _ _ ⟨rfl,by simp; omega,λi v hi=>by
  have:=(lookup_slotsOf args 0 i v hi).2
  rw [Nat.sub_zero] at this
  have hl:=(List.getElem?_eq_some_iff.1 this).1
  rw [Array.getElem?_append_left (by simpa using hl)]
  simpa using this⟩ (St.start w)))
def Res (P:Program) (F:Slots) (L:Blocks) (r:ResultVar) (v:Value):Prop :=
 match r with
 | .tmp t=>F.lookup t=some v
 | .cell t ty=>∃ (g i:Nat) (ty':TypeId) (cs:Array Value) (d:TypeDesc),F.lookup t=some (.pointer (some ⟨g,0,none⟩))∧L[i]? = some (g,ty',cs)∧P.underlying ty=some d∧d.isRow=true∧(P.info? ty).map (·.size)=some cs.size∧v=.agg cs
theorem Res.cell {t:Tmp} {ty ty':TypeId} {v:Value} (g i:Nat) (cs:Array Value) (d:TypeDesc) (h1:F.lookup t=some (.pointer (some ⟨g,0,none⟩))) (h2:L[i]? = some (g,ty',cs)) (h3:P.underlying ty=some d) (h4:d.isRow=true) (h5:(P.info? ty).map (·.size)=some cs.size) (h6:v=.agg cs):Res P F L (.cell t ty) v :=
 ⟨g,i,ty',cs,d,h1,h2,h3,h4,h5,h6⟩
def ResC (P:Program) (F:Slots) (L:Blocks) (t:Tmp) (ty:TypeId) (v:Value):Prop :=
 ∃ (g i:Nat) (ty':TypeId) (cs:Array Value) (d:TypeDesc),F.lookup t=some (.pointer (some ⟨g,0,none⟩))∧L[i]? = some (g,ty',cs)∧P.underlying ty=some d∧d.isRow=false∧cs[0]? = some v
abbrev Has (P:Program) (F:Slots) (L:Blocks) (r:ResultVar) (v:Value):Prop:=Res P F L r v∨∃ t ty,r=.cell t ty∧ResC P F L t ty v
theorem Res.run {ds:List Deferred} {a:Act} {w:World} {r:ResultVar} {v:Value} (h:Has P F L r v) (ha:Fr ds a n F) (hw:St w0 w L) :
  (∃ t,r=.tmp t∧a.tmps[t]?.getD undef=v)∨∃ t ty ad,r=.cell t ty∧(asAddr (a.tmps[t]?.getD undef)).run P w=.ok ad w∧(loadVar ty ad).run P w=.ok v w:=by
 rcases h with h | ⟨t,ty,rfl,g,i,ty',cs,d,h1,h2,h3,h4,h5⟩
 ·cases r with
  | tmp t=>exact .inl ⟨t,rfl,by simp [ha.2.2 t v h]⟩
  | cell t ty =>
   obtain ⟨g,i,ty',cs,d,h1,h2,h3,h4,h5,rfl⟩:=h
   have e2:=run_loadVar_row (P:=P) w g ty' ty cs (0,0) d (hw.get h2) h3 (by cases d <;> first | rfl | cases h4) h5
   exact .inr ⟨t,ty,⟨g,0,none⟩,rfl,by simp [ha.2.2 t _ h1,asAddr],e2⟩
 ·have hb:=hw.get h2
  have hc:w.cell? ⟨g,0,none⟩=some v:=(hb.cell 0).trans h5
  have hag:(isAgg ty).run P w=.ok false w:=by
   cases d <;> first | (cases h4; done) | simp [isAgg,underlying,h3]
  exact .inr ⟨t,ty,⟨g,0,none⟩,rfl,by simp [ha.2.2 t _ h1,asAddr],by simp [loadVar,hag,hc,Result.andThen]⟩
theorem ret1 {w1:World} {fn:Func} {r:ResultVar} {v:Value} (hr:fn.results=#[r]) (h:Has P F L r v):X (Base.of w1) n (bodyPost P fn (Gets w1 v)) F L .ret:=λa w ha hw=>by
 refine bodyPost_ret (v:=v) ?_ ha.1 ⟨rfl,hw.below⟩
 rcases Res.run h ha hw with ⟨t,rfl,e1⟩ | ⟨t,ty,ad,rfl,e1,e2⟩ <;> simp [results,Result.andThen, *]
theorem ret3 {w1:World} {fn:Func} {r s q:ResultVar} {v u x:Value} (hr:fn.results=#[r,s,q]) (h:Has P F L r v) (k:Has P F L s u) (m:Has P F L q x):X (Base.of w1) n (bodyPost P fn (Gets w1 (.tuple #[v,u,x]))) F L .ret:=λa w ha hw=>by
 refine bodyPost_ret (v:=.tuple #[v,u,x]) ?_ ha.1 ⟨rfl,hw.below⟩
 rcases Res.run h ha hw with ⟨t,rfl,e1⟩ | ⟨t,ty,ad,rfl,e1,e2⟩ <;> rcases Res.run k ha hw with ⟨t',rfl,f1⟩ | ⟨t',ty',ad',rfl,f1,f2⟩ <;> rcases Res.run m ha hw with ⟨t'',rfl,g1⟩ | ⟨t'',ty'',ad'',rfl,g1,g2⟩ <;> simp [results,Result.andThen, *]
end
end Sy
end
section
namespace Sy
open Go.RowKit
theorem St.setNew {w0:Base} {w w':World} {L:Blocks} (h:St w0 w L) (hg:Gr w w') {i g:Nat} {t:TypeId} {cs:Array Value} (hi:i<L.length) (hn:w.heap.size≤g) (hb:Blk w' g t cs):St w0 w' (L.set i (g,t,cs)):=by
 have h':=h.gr hg
 refine ⟨h'.below,λg1 t1 c1 hm=>?_,?_,h'.size,h'.non⟩
 ·rcases List.mem_or_eq_of_mem_set hm with hm | e
  ·exact ⟨(h.blk g1 t1 c1 hm).1,hg.blk (h.blk g1 t1 c1 hm).2⟩
  ·obtain ⟨rfl,rfl,rfl⟩:g1=g∧t1=t∧c1=cs:=by simpa using e
   exact ⟨Nat.le_trans h.below.size hn,hb⟩
 ·rw [List.map_set]
  have hlt:∀ x∈L.map (·.1),x<g:=λx hx=>by
   obtain ⟨⟨g1,t1,c1⟩,hm,rfl⟩:=List.mem_map.1 hx
   exact Nat.lt_of_lt_of_le (h.blk g1 t1 c1 hm).2.lt hn
  have hp:=h.apart
  generalize L.map (·.1)=l at hlt hp
  clear h hb hi
  induction l generalizing i with
  | nil=>exact List.Pairwise.nil
  | cons x l ih =>
   obtain ⟨h1,h2⟩:=List.nodup_cons.1 hp
   cases i with
   | zero =>
    refine List.nodup_cons.2 ⟨λhm=>?_,h2⟩
    have:=hlt g (List.mem_cons_of_mem _ hm)
    omega
   | succ i =>
    refine List.nodup_cons.2 ⟨λhm=>?_,ih (λy hy=>hlt y (List.mem_cons_of_mem _ hy)) h2⟩
    rcases List.mem_or_eq_of_mem_set hm with hm | e
    ·exact h1 hm
    ·have:=hlt x (List.mem_cons_self ..)
     omega
theorem addr_off (b f q:Nat):(⟨b,f,none⟩:Addr).add q=⟨b,f+q,none⟩:=by unfold Addr.add; split <;> simp_all
section
variable {P:Program} {w0:Base} {n:Nat} {Q:Exit→Act→World→Prop} {F:Slots} {L:Blocks} {ops:Array Oper} {o:Oper} {l:List Oper}
theorem Quiet.callS {v:Value} (f:FuncId) (args:Array Value) (he:∀ w,(execOp (evF F) o).run P w=.ok (.enter f args) w)
  (h:∀ w,St w0 w L→Calls P f args w (Gets w v)):Quiet P w0 F L o v:=λw hw=>by
 unfold Gives; rw [he w]; exact h w hw
theorem Writes.one (f:Nat) {g:Nat} {t:TypeId} {cs cs':Array Value} (ty:TypeId) (v:Value) (x y:Operand) (ho:o.op=.store ty x y) (hx:evF F x=.pointer (some ⟨g,f,none⟩)) (hy:evF F y=v)
  (hi:(P.info? ty).map (·.size)=some 1) (hv:v.cells=#[v]) (h1:v.oneCell'=true) (hk:f<cs.size) (hcs:cs.setIfInBounds f v=cs'):Writes P F o g t cs cs' :=
 λw hb=>⟨w.setCell ⟨g,f,none⟩ v,by
  have hth:=hb.there f 1 hk
  have hst:=run_storeCells_cells (P:=P) g f [v] 0 w (λj hj=>by simpa using (hth j hj).1) (λj hj=>by simpa using (hth j hj).2) (λu hu=>by rw [List.mem_singleton.1 hu]; exact h1)
  unfold execOp
  cases hq:P.info? ty with
  | none=>simp [hq] at hi
  | some i =>
   have hs:i.size=1:=by simpa [hq] using hi
   simp only [World.setCells,Nat.add_zero] at hst
   simp [ho,hx,hy,Instr.storeAt,Instr.sureAddr,storeVar,sizeOf,typeInfo,hq,hs,hv,hst,Result.andThen],
  only_setCell (World.grownBy.refl w (some g)) (.inl rfl) v,hcs ▸ hb.set_ f v⟩
theorem append (hg:good ops n F o=true) (ts e:TypeId) (inf:TypeInfo) (z:Value) (ht:P.underlying ts=some (.slice e)) (hinf:P.info? e=some inf) (hz:inf.zero=some z) (hs1:inf.size=1) (hb1:inf.bytes=1) (hzs:z.cells.size=1)
  (s x:Operand) (ho:o.op=.call { callee:=.builtin .append,args:=#[s,x],argTypes:=#[ts,ts] })
  (i g len cap:Nat) (cs:Array Value) (old:List Value) (hs:evF F s=.slice (some ⟨g,0,none⟩) len cap) (hL:L[i]? = some (g,e,cs)) (hold:cs.toList.take len=old) (hlen:old.length=len) (hcap:cs.size=cap) (hmax:cap≤maxLen)
  (j gx fx m c:Nat) (tx:TypeId) (cx:Array Value) (news:List Value) (hx:evF F x=.slice (some ⟨gx,fx,none⟩) m c) (hLx:L[j]? = some (gx,tx,cx)) (hnews:(cx.toList.drop fx).take m=news) (hm:news.length=m) (h1:∀ u∈news,u.oneCell'=true) (hsmall:len+m≤140737488355328)
  (h:∀ (g' cap':Nat) (sp:List Value),sp.length+(len+m)=cap'→cap'≤maxLen→wpS P w0 n ops Q (putF F o.dst (.slice (some ⟨g',0,none⟩) (len+m) cap')) (L.set i (g',e,(old++(news++sp)).toArray)) l):wpS P w0 n ops Q F L (o::l):=λa w ha hw=>by
 obtain ⟨k1,_,k3,_⟩:=good_spec hg
 refine wpList_step λK hK=>?_
 rw [if_pos (ha.wanted k1)]
 have hb:=hw.get hL
 have hbx:=hw.get hLx
 have hle:len≤cap:=by
  have:=congrArg List.length hold
  rw [List.length_take,hlen,Array.length_toList,hcap] at this
  omega
 have hn:∀ q u,news[q]? = some u→w.cell? ((⟨gx,fx,none⟩:Addr).add q)=some u:=λq u hq=>by
  rw [addr_off,hbx.cell]
  rw [← hnews] at hq
  have hlt:q<m:=by
   have:=(List.getElem?_eq_some_iff.1 hq).1
   simp at this; omega
  rw [List.getElem?_take_of_lt hlt,List.getElem?_drop] at hq
  simpa using hq
 have hown:w.ownsRow 0 e 1 (.slice (some ⟨g,0,none⟩) len cap) len old:=⟨by omega,.inr ⟨g,cap,cs,rfl,Nat.zero_le _,hb,hle,hmax,by omega,by rw [Nat.mul_one]; exact hold⟩⟩
 have step:∀ v' w',(Builtin.append_ #[ts,ts] o.type #[.slice (some ⟨g,0,none⟩) len cap,.slice (some ⟨gx,fx,none⟩) m c]).run P w=.ok v' w'→K (a.put o.dst v') w'→o.wp P a w K Q:=λv' w' hr hk=>by
  unfold Oper.wp
  rw [good_exec hg ha]
  unfold execOp
  simp only [ho,resolve,invoke,builtin,Sem.run_bind,Sem.run_pure,Result.andThen_ok,List.map_toArray,List.map_cons,List.map_nil,hs,hx,hr]
  exact hk
 have last:∀ (w':World) (g' cap':Nat) (cur:Array Value),cur.size=cap'→cap'≤maxLen→cur.toList.take (len+m)=old++news→St w0 w' (L.set i (g',e,cur))→K (a.put o.dst (.slice (some ⟨g',0,none⟩) (len+m) cap')) w':=λw' g' cap' cur h2 h3 h4 h5=>by
  have hc:cur=(old++(news++cur.toList.drop (len+m))).toArray:=by
   rw [← List.append_assoc, ← h4,List.take_append_drop]
  rw [hc] at h5
  refine hK _ _ (h g' cap' _ ?_ h3 _ _ (ha.put k3 _) h5)
  have:=congrArg List.length h4
  rw [List.length_take,List.length_append,Array.length_toList,hlen,hm] at this
  rw [List.length_drop,Array.length_toList]
  omega
 rcases Nat.lt_or_ge cap (len+m) with hlt | hge
 ·obtain ⟨v',w',hr,hrow,hgr⟩:=run_append_arg_grows (P:=P) w ts o.type e inf z 1 1 ht hinf hz hs1 hb1 hzs (by decide) ⟨g,0,none⟩ len cap old (by omega) (hown.cells (g:=g) rfl) ⟨gx,fx,none⟩ m c news (by omega) hn hlt (by simp only [maxLen]; omega) (by omega)
  refine step v' w' hr ?_
  rcases hrow.2 with ⟨rfl,h0⟩ | ⟨g',cap',cur,rfl,q1,q2,_,q4,q5,q6⟩
  ·omega
  ·exact last w' g' cap' cur (by omega) q4 (by rw [Nat.mul_one] at q6; exact q6) (hw.setNew (⟨hgr.os,hgr.tape,hgr.output,hgr.size,λk hk=>hgr.block k hk (by simp)⟩) (List.getElem?_eq_some_iff.1 hL).1 q1 q2)
 ·obtain ⟨w',hr,hrow,hgr⟩:=run_append_own_spare (P:=P) w 0 ts o.type e inf 1 ht hinf hs1 g len cap old hown ⟨gx,fx,none⟩ m c news (by omega) hn h1 hge
  refine step _ w' hr ?_
  rcases hrow.2 with ⟨h0,_⟩ | ⟨g',cap',cur,hv,_,q2,_,q4,q5,q6⟩
  ·cases h0
  ·cases hv
   exact last w' g cap cur (by omega) q4 (by rw [Nat.mul_one] at q6; exact q6) (hw.set hL hgr q2)
theorem loopI {c:Code} (N:Nat) (I:Nat→Act→World→Prop) (h0:∀ a w,Fr w0.ds a n F→St w0 w L→I 0 a w)
  (hr:∀ i,i≤N→∀ a w,I i a w→c.wpIn w0.fence w0.room P (Exit.then (λa w=>i<N∧I (i+1) a w) Q) a w):wpC P w0 n Q F L (.loop c):=λa w ha hw=>by
 refine wpIn_loop_rounds (N+1) ?_
 have key:∀ k i,i+k=N→∀ a w,I i a w→Code.roundsIn w0.fence w0.room P c Q (k+1) a w:=by
  intro k
  induction k with
  | zero =>
   intro i hi a w h
   refine wpIn_mono (hr i (by omega) a w h) λe a w hq=>?_
   cases e <;> first | exact hq | exact absurd hq.1 (by omega)
  | succ k ih =>
   intro i hi a w h
   refine wpIn_mono (hr i (by omega) a w h) λe a w hq=>?_
   cases e <;> first | exact hq | exact ih (i+1) (by omega) a w hq.2
 exact key N 0 (by omega) a w (h0 a w ha hw)
theorem lookup_all:∀ (G:Slots),(∀ p∈G,F.lookup p.1=some p.2)→∀ i v,G.lookup i=some v→F.lookup i=some v
 | [],_,_,_,h=>by cases h
 | (q,u)::G,hG,i,v,h=>by
  simp only [List.lookup_cons] at h
  by_cases e:i=q
  ·subst e
   simp at h
   subst h
   exact hG (i,u) (List.mem_cons_self ..)
  ·have e':(i == q)=false:=by simpa using e
   rw [e'] at h
   exact lookup_all G (λp hp=>hG p (List.mem_cons_of_mem _ hp)) i v h
theorem Fr.all {ds:List Deferred} {a:Act} (h:Fr ds a n F) {G:Slots} (hG:∀ p∈G,F.lookup p.1=some p.2):Fr ds a n G:=h.less (lookup_all G hG)
theorem all_nil:∀ p∈([]:Slots),F.lookup p.1=some p.2:=λ_ h=>by cases h
theorem all_cons {G:Slots} {i:Nat} {v:Value} (h:F.lookup i=some v) (hG:∀ p∈G,F.lookup p.1=some p.2):∀ p∈(i,v)::G,F.lookup p.1=some p.2:=λp hp=>by
 rcases List.mem_cons.1 hp with rfl | hp
 ·exact h
 ·exact hG p hp
def sel:Blocks→List Bool→Blocks
 | x::l,true::m=>x::sel l m
 | _::l,false::m=>sel l m
 | _,_=>[]
theorem sel_sub:∀ (l:Blocks) (m:List Bool),(sel l m).Sublist l
 | [],[]=>List.Sublist.slnil
 | [],_::_=>by simp [sel]
 | _::_,[]=>by simp [sel]
 | _::l,true::m=>(sel_sub l m).cons_cons _
 | _::l,false::m=>(sel_sub l m).cons _
theorem Quiet.thereOne (g f:Nat) (ty:TypeId) (d:TypeDesc) (x:Operand) (ho:o.op=.load ty x) (hx:evF F x=.pointer (some ⟨g,f,none⟩)) (hg:g<w0.world.heap.size) (v:Value) (hr:w0.world.cell? ⟨g,f,none⟩=some v)
  (hu:P.underlying ty=some d) (hd:d.isRow=false):Quiet P w0 F L o v:=λw hw=>by
 have hc:w.cell? ⟨g,f,none⟩=some v:=(Below.cell (p:=⟨g,f,none⟩) hw.below hg).trans hr
 have ha:(isAgg ty).run P w=.ok false w:=by
  cases d <;> first | (cases hd; done) | simp [isAgg,underlying,hu]
 unfold Gives execOp
 simp only [ho,hx,Instr.loadAt,Instr.sureAddr,Sem.run_bind,Sem.run_pure,Result.andThen_ok,loadVar,ha,Bool.false_eq_true,if_false,run_load,hc]
 exact ⟨trivial,Gr.refl _⟩
end
end Sy
end
section
namespace Sy
open Go.RowKit
section
variable {P:Program} {w0:Base} {n:Nat} {Q:Exit→Act→World→Prop} {F:Slots} {L:Blocks} {ops:Array Oper} {o:Oper} {l:List Oper} {ex:Nat→Bool} {fuel:Nat} {listed:Array Bool}
def WritesV (P:Program) (w0:Base) (F:Slots) (L:Blocks) (o:Oper) (g:Nat) (t:TypeId) (cs':Array Value) (v:Value):Prop :=
 ∀ w,St w0 w L→∃ w',(execOp (evF F) o).run P w=.ok (.value v) w'∧w.grownBy w' (some g)∧Blk w' g t cs'
theorem writeV (hg:good ops n F o=true) (i g:Nat) (t:TypeId) (cs cs':Array Value) (v:Value) (hL:L[i]? = some (g,t,cs)) (hm:WritesV P w0 F L o g t cs' v) (h:wpS P w0 n ops Q (putF F o.dst v) (L.set i (g,t,cs')) l):wpS P w0 n ops Q F L (o::l):=λa w ha hw=>by
 obtain ⟨g1,_,g3,_⟩:=good_spec hg
 obtain ⟨w',h1,h2,h3⟩:=hm w hw
 refine wpList_step λK hK=>?_
 rw [if_pos (ha.wanted g1)]
 unfold Oper.wp
 rw [good_exec hg ha,h1]
 exact hK _ _ (h _ _ (ha.put g3 _) (hw.set hL h2 h3))
theorem writeVD (k:Nat) {oi:Oper} (hi0:ops.toList[k]? = some oi) (hr:Region.ready .any ops listed=[k]) (hex:ex k=true) (hg:good ops n F oi=true) (i g:Nat) (t:TypeId) (cs cs':Array Value) (v:Value) (hL:L[i]? = some (g,t,cs)) (hm:WritesV P w0 F L oi g t cs' v)
  (h:wpD P w0 n ops Q ex (putF F oi.dst v) (L.set i (g,t,cs')) fuel (listed.setIfInBounds k true)):wpD P w0 n ops Q ex F L (fuel+1) listed:=λa w ha hw =>
 wpAnyG_sole k hi0 hr (ha.wanted (good_spec hg).1) λw1 h1 K hK=>by
  obtain ⟨w',e1,e2,e3⟩:=hm w1 (hw.gr h1)
  unfold Oper.wp
  rw [good_exec hg ha,e1]
  exact hK _ _ (λe=>by rw [hex] at e; cases e) (h _ _ (ha.put (good_spec hg).2.2.1 _) ((hw.gr h1).set hL e2 e3))
theorem WritesV.copy (d s:Operand) (dT sT e:TypeId) (ho:o.op=.call { callee:=.builtin .copy,args:=#[d,s],argTypes:=#[dT,sT] }) (hu:P.underlying dT=some (.slice e)) (hsz:(P.info? e).map (·.size)=some 1)
  (i g f dl dc:Nat) (t:TypeId) (cs cs':Array Value) (hL:L[i]? = some (g,t,cs)) (hd:evF F d=.slice (some ⟨g,f,none⟩) dl dc)
  (j gx fx sl sc:Nat) (tx:TypeId) (cx:Array Value) (hLx:L[j]? = some (gx,tx,cx)) (hs:evF F s=.slice (some ⟨gx,fx,none⟩) sl sc)
  (news:List Value) (hnews:(cx.toList.drop fx).take (Nat.min sl dl)=news) (hn:news.length=Nat.min sl dl) (h1:∀ u∈news,u.oneCell'=true) (hfit:f+news.length≤cs.size) (hcs:setAll cs f news=cs'):WritesV P w0 F L o g t cs' (goInt news.length):=λw hw=>by
 have hb:=hw.get hL
 have hbx:=hw.get hLx
 have hth:=hb.there f news.length hfit
 have hr:=run_copy_cells (P:=P) w dT sT o.type e g f dl dc ⟨gx,fx,none⟩ sl sc news hu hsz hn (λq u hq=>by
  rw [addr_off,hbx.cell]
  rw [← hnews] at hq
  have hlt:q<Nat.min sl dl:=by
   have h:=(List.getElem?_eq_some_iff.1 hq).1
   rw [List.length_take] at h
   exact Nat.lt_of_lt_of_le h (Nat.min_le_left _ _)
  rw [List.getElem?_take_of_lt hlt,List.getElem?_drop] at hq
  simpa using hq) (λq hq=>(hth q hq).1) (λq hq=>(hth q hq).2) h1
 refine ⟨_,?_,only_setCells news f w (World.grownBy.refl w (some g)),hcs ▸ Blk.setCells news f w cs hb⟩
 unfold execOp
 simp only [ho,resolve,invoke,builtin,Sem.run_bind,Sem.run_pure,Result.andThen_ok,List.map_toArray,List.map_cons,List.map_nil,hs,hd,hr]
theorem all_one (l:List Value) (h:l.all (·.oneCell')=true):∀ u∈l,u.oneCell'=true:=λu hu=>List.all_eq_true.1 h u hu
end
end Sy
end
section
namespace Sy
open Go.RowKit
theorem setAll_is:∀ (vs:List Value) (o:Nat) (cs:Array Value),o+vs.length≤cs.size→setAll cs o vs=(cs.toList.take o++(vs++cs.toList.drop (o+vs.length))).toArray
 | [],o,cs,_=>by simp [setAll,List.take_append_drop]
 | v::r,o,cs,h=>by
  simp only [List.length_cons] at h
  rw [setAll,setAll_is r (o+1) _ (by simp; omega)]
  congr 1
  have hlt:o<cs.toList.length:=by simp; omega
  rw [Array.toList_setIfInBounds,List.take_set,List.take_add_one,List.drop_set_of_lt (by omega),List.getElem?_eq_getElem hlt,List.set_append_right _ _ (by simp; omega)]
  have e:o+1+r.length=o+(r.length+1):=by omega
  simp [Nat.min_eq_left (Nat.le_of_lt (show o<cs.size by omega)),e]
def flat (f:Nat→List Value) (n:Nat):List Value:=(List.range n).flatMap f
section
variable {s:Nat} {f:Nat→List Value}
theorem flat_succ (n:Nat):flat f (n+1)=flat f n++f n:=by simp [flat,List.range_succ]
theorem flat_len (h:∀ k,(f k).length=s):∀ n,(flat f n).length=n*s
 | 0=>by simp [flat]
 | n+1=>by rw [flat_succ,List.length_append,flat_len h n,h,Nat.succ_mul]
theorem flat_add (k:Nat):∀ m,flat f (k+m)=flat f k++flat (λj=>f (k+j)) m
 | 0=>by simp [flat]
 | m+1=>by rw [← Nat.add_assoc,flat_succ,flat_add k m,flat_succ,List.append_assoc]
theorem flat_split {n k:Nat} (hk:k<n):flat f n=flat f k++(f k++flat (λj=>f (k+1+j)) (n - k - 1)):=by
 obtain ⟨m,rfl⟩:∃ m,n=k+1+m:=⟨n - k - 1,by omega⟩
 rw [flat_add,flat_succ,List.append_assoc,show k+1+m - k - 1=m by omega]
theorem flat_congr {g:Nat→List Value} {n:Nat} (h:∀ k,k<n→f k=g k):flat f n=flat g n:=by
 unfold flat
 rw [List.flatMap_def,List.flatMap_def]
 exact congrArg List.flatten (List.map_congr_left λk hk=>h k (List.mem_range.1 hk))
theorem flat_at (h:∀ k,(f k).length=s) {n k o:Nat} (hk:k<n) (ho:o=k*s):((flat f n).drop o).take s=f k:=by
 subst ho
 rw [flat_split hk,List.drop_append_of_le_length (by rw [flat_len h]; exact Nat.le_refl _),List.drop_eq_nil_of_le (by rw [flat_len h]; exact Nat.le_refl _),List.nil_append,List.take_append_of_le_length (by rw [h]; exact Nat.le_refl _),List.take_of_length_le (by rw [h]; exact Nat.le_refl _)]
theorem flat_in (h:∀ k,(f k).length=s) {n k o e m:Nat} (hk:k<n) (ho:o=k*s+e) (hm:e+m≤s):((flat f n).drop o).take m=((f k).drop e).take m:=by
 subst ho
 rw [← flat_at h hk rfl,List.drop_take,List.drop_drop,List.take_take,Nat.min_eq_left (by omega)]
theorem flat_set (h:∀ k,(f k).length=s) {v:List Value} (hv:v.length=s) {n k o:Nat} (hk:k<n) (ho:o=k*s):setAll (flat f n).toArray o v=(flat (λj=>if j=k then v else f j) n).toArray:=by
 subst ho
 have hl:=flat_len h (f:=f)
 have hks:k*s+s≤n*s:=by rw [← Nat.succ_mul]; exact Nat.mul_le_mul_right s hk
 rw [setAll_is _ _ _ (by simp [hl,hv]; exact hks)]
 congr 1
 rw [flat_split hk,flat_split (f:=λj=>if j=k then v else f j) hk]
 congr 1
 ·show (flat f k++_).take (k*s)=_
  rw [List.take_append_of_le_length (by rw [hl]; exact Nat.le_refl _),List.take_of_length_le (by rw [hl]; exact Nat.le_refl _)]
  exact flat_congr λj hj=>by rw [if_neg (by omega)]
 ·simp only [if_true]
  congr 1
  show (flat f k++(f k++_)).drop (k*s+v.length)=_
  rw [← List.append_assoc,List.drop_append_of_le_length (by rw [List.length_append,hl,h,hv]; exact Nat.le_refl _),List.drop_eq_nil_of_le (by rw [List.length_append,hl,h,hv]; exact Nat.le_refl _),List.nil_append]
  exact flat_congr λj hj=>by rw [if_neg (by omega)]
theorem flat_const (c:List Value) (hc:c.length=s) (hs:0<s) (n:Nat) (z:Array Value) (hz:z.toList=c):(flat (λ_=>c) n).toArray=madeCells z (n*s):=by
 have hzs:z.size=s:=by rw [← Array.length_toList,hz,hc]
 apply Array.ext'
 unfold madeCells
 apply List.ext_getElem?
 intro i
 rw [Array.toList_map,Array.toList_range,List.getElem?_map]
 by_cases hi:i<n*s
 ·have hk:i / s<n:=Nat.div_lt_of_lt_mul (by rw [Nat.mul_comm]; exact hi)
  have h:=flat_in (s:=s) (f:=λ_=>c) (λ_=>hc) (n:=n) (k:=i / s) (o:=i) (e:=i%s) (m:=1) hk (by rw [Nat.mul_comm]; exact (Nat.div_add_mod i s).symm) (Nat.mod_lt _ hs)
  have h2:=congrArg (·[0]?) h
  simp only [List.getElem?_take,List.getElem?_drop,Nat.zero_lt_one,if_true,Nat.add_zero] at h2
  rw [h2,List.getElem?_range hi]
  have hm:i%s<s:=Nat.mod_lt _ hs
  simp only [Option.map_some,hzs]
  rw [← hz]
  simp [hzs,hm]
 ·rw [List.getElem?_eq_none (by rw [flat_len (s:=s) (λ_=>hc)]; omega),List.getElem?_eq_none (by simp; omega)]
  rfl
end
def upto (k:Nat) (A:Nat→List Value) (z:List Value) (j:Nat):List Value:=if j<k then A j else z
section
variable {s n k:Nat} {A:Nat→List Value} {z:List Value}
theorem upto_len (hA:∀ j,(A j).length=s) (hz:z.length=s) (k:Nat):∀ j,(upto k A z j).length=s:=λj=>by
 unfold upto
 split
 ·exact hA j
 ·exact hz
theorem upto_set (hA:∀ j,(A j).length=s) (hz:z.length=s) {v:List Value} (hv:A k=v) (hk:k<n) {o:Nat} (ho:o=k*s):setAll (flat (upto k A z) n).toArray o v=(flat (upto (k+1) A z) n).toArray:=by
 rw [flat_set (upto_len hA hz k) (by rw [← hv]; exact hA k) hk ho]
 refine congrArg List.toArray (flat_congr λj _=>?_)
 unfold upto
 by_cases e:j=k
 ·subst e
  rw [if_pos rfl,if_pos (by omega),hv]
 ·rw [if_neg e]
  by_cases h:j<k
  ·rw [if_pos h,if_pos (by omega)]
  ·rw [if_neg h,if_neg (by omega)]
end
section
variable {s n m:Nat} {f:Nat→List Value}
end
section
variable {P:Program} {w0:Base} {n:Nat} {Q:Exit→Act→World→Prop} {F:Slots} {L:Blocks} {ops:Array Oper} {o:Oper} {l:List Oper}
theorem blk_range {w:World} {g:Nat} {t:TypeId} {cs:Array Value} (h:Blk w g t cs) {o:Nat} {vs:List Value} (e:(cs.toList.drop o).take vs.length=vs):w.rangeAt g o vs:=λj v hj=>by
 rw [h.cell]
 rw [← e] at hj
 have hlt:j<vs.length:=by
  have h:=(List.getElem?_eq_some_iff.1 hj).1
  rw [List.length_take] at h
  exact Nat.lt_of_lt_of_le h (Nat.min_le_left _ _)
 rw [List.getElem?_take_of_lt hlt,List.getElem?_drop] at hj
 simpa using hj
theorem exec_int (op:BinOp) (t:TypeId) (x y:Operand) {yt:TypeId} (k:IntKind) {k':IntKind} (a b:Int) (v:Value) (ho:o.op=.binOp op t x y yt) (hx:evF F x=.int k a) (hy:evF F y=.int k' b) (h:∀ w,(binOp op t (.int k a) (.int k' b)).run P w=.ok v w) (w:World) :
  (execOp (evF F) o).run P w=.ok (.value v) w:=by
 have h1:(eqGuard op t x y (.int k a) (.int k' b)).run P w=.ok () w:=by
  unfold eqGuard
  cases op <;> rfl
 unfold execOp
 simp only [ho,hx,hy,Sem.run_bind,h1,h w,Result.andThen_ok,Sem.run_pure]
theorem wrap_i64 {z:Int} (h0 : -9223372036854775808≤z) (h1:z<9223372036854775808):IntKind.i64.wrap z=z:=by
 unfold IntKind.wrap; simp [IntKind.bits,IntKind.signed]; omega
theorem wrap_u64 {z:Int} (h0:0≤z) (h1:z<18446744073709551616):IntKind.u64.wrap z=z:=by
 unfold IntKind.wrap; simp [IntKind.bits,IntKind.signed]; omega
theorem int_add (t:TypeId) (k:IntKind) (a b c:Int) (h:k.wrap (a+b)=c) (w:World):(binOp .add t (.int k a) (.int k b)).run P w=.ok (.int k c) w:=by simp [binOp,Op.intArith,h]
theorem int_sub (t:TypeId) (k:IntKind) (a b c:Int) (h:k.wrap (a - b)=c) (w:World):(binOp .sub t (.int k a) (.int k b)).run P w=.ok (.int k c) w:=by simp [binOp,Op.intArith,h]
theorem int_mul (t:TypeId) (k:IntKind) (a b c:Int) (h:k.wrap (a*b)=c) (w:World):(binOp .mul t (.int k a) (.int k b)).run P w=.ok (.int k c) w:=by simp [binOp,Op.intArith,h]
theorem int_quo (t:TypeId) (k:IntKind) (a b c:Int) (hb:b≠0) (h:k.wrap (a.tdiv b)=c) (w:World):(binOp .quo t (.int k a) (.int k b)).run P w=.ok (.int k c) w:=by simp [binOp,Op.intDiv,hb,h]
theorem int_rem (t:TypeId) (k:IntKind) (a b c:Int) (hb:b≠0) (h:a.tmod b=c) (w:World):(binOp .rem t (.int k a) (.int k b)).run P w=.ok (.int k c) w:=by simp [binOp,Op.intDiv,hb,h]
theorem int_shr (t:TypeId) (k k':IntKind) (a b c:Int) (hb:¬ b<0) (h:a.fdiv (2 ^ min b.toNat k.bits)=c) (w:World):(binOp .shr t (.int k a) (.int k' b)).run P w=.ok (.int k c) w:=by
 simp only [binOp,Op.shift,if_neg hb,Sem.run_pure,h]
theorem int_lss (t:TypeId) (k:IntKind) (a b:Int) (c:Bool) (h:decide (a<b)=c) (w:World):(binOp .lss t (.int k a) (.int k b)).run P w=.ok (.bool c) w:=by simp [binOp,Op.intCmp, ← h]
theorem int_leq (t:TypeId) (k:IntKind) (a b:Int) (c:Bool) (h:decide (a≤b)=c) (w:World):(binOp .leq t (.int k a) (.int k b)).run P w=.ok (.bool c) w:=by simp [binOp,Op.intCmp, ← h]
theorem int_gtr (t:TypeId) (k:IntKind) (a b:Int) (c:Bool) (h:decide (a>b)=c) (w:World):(binOp .gtr t (.int k a) (.int k b)).run P w=.ok (.bool c) w:=by simp [binOp,Op.intCmp, ← h]
theorem int_geq (t:TypeId) (k:IntKind) (a b:Int) (c:Bool) (h:decide (a ≥ b)=c) (w:World):(binOp .geq t (.int k a) (.int k b)).run P w=.ok (.bool c) w:=by simp [binOp,Op.intCmp, ← h]
theorem int_eql (t:TypeId) (k:IntKind) (a b:Int) (c:Bool) (h:decide (a=b)=c) (w:World):(binOp .eql t (.int k a) (.int k b)).run P w=.ok (.bool c) w:=by
 simp only [binOp,ne_eq,not_true_eq_false,if_false,Op.intCmp,Sem.run_pure, ← h]
 rfl
theorem int_neq (t:TypeId) (k:IntKind) (a b:Int) (c:Bool) (h:decide (a≠b)=c) (w:World):(binOp .neq t (.int k a) (.int k b)).run P w=.ok (.bool c) w:=by
 simp only [binOp,ne_eq,not_true_eq_false,if_false,Op.intCmp,Sem.run_pure, ← h]
 by_cases e:a=b <;> simp [e]
theorem exec_at (t e:TypeId) (x kx:Operand) (g f len cap k s:Nat) (ki:IntKind) (ho:o.op=.indexAddr t x kx) (hx:evF F x=.slice (some ⟨g,f,none⟩) len cap) (hkx:evF F kx=.int ki (k:Int)) (ht:P.underlying t=some (.slice e)) (hsz:∀ w,(sizeOf e).run P w=.ok s w) (hk:k<len) (w:World) :
  (execOp (evF F) o).run P w=.ok (.value (.pointer (some ⟨g,f+k*s,none⟩))) w:=by
 have h0:(0:Int)≤k:=by omega
 have h1:((k:Int).toNat)=k:=by omega
 unfold execOp
 simp [ho,hx,hkx,Instr.indexAt,asIntOf,run_underlying ht,hsz,h0,hk,addr_off,Result.andThen]
theorem exec_atA (t e:TypeId) (x kx:Operand) (g f m k s:Nat) (ki:IntKind) (ho:o.op=.indexAddr t x kx) (hx:evF F x=.pointer (some ⟨g,f,none⟩)) (hkx:evF F kx=.int ki (k:Int)) (ht:P.underlying t=some (.array m e)) (hsz:∀ w,(sizeOf e).run P w=.ok s w) (hk:k<m) (w:World) :
  (execOp (evF F) o).run P w=.ok (.value (.pointer (some ⟨g,f+k*s,none⟩))) w:=by
 have h0:(0:Int)≤k:=by omega
 unfold execOp
 simp [ho,hx,hkx,Instr.indexAt,asIntOf,run_underlying ht,hsz,h0,hk,addr_off,Result.andThen,Instr.sureAddr]
def NextX {T:Type} (w0:Base) (n N:Nat) (FF:Nat→T→Slots) (LL:Nat→T→Blocks) (H:Nat→T→Prop) (k:Nat):Act→World→Prop:=λa w=>k<N∧∃ y,H (k+1) y∧Fr w0.ds a n (FF (k+1) y)∧St w0 w (LL (k+1) y)
theorem loopX {T:Type} {c:Code} (N:Nat) (FF:Nat→T→Slots) (LL:Nat→T→Blocks) (H:Nat→T→Prop) (x0:T) (m:List Bool) (h0:H 0 x0) (hF:∀ p∈FF 0 x0,F.lookup p.1=some p.2) (hL:sel L m=LL 0 x0)
  (hr:∀ k x,k≤N→H k x→wpC P w0 n (Exit.then (NextX w0 n N FF LL H k) Q) (FF k x) (LL k x) c):wpC P w0 n Q F L (.loop c) :=
 loopI N (λk a w=>∃ x,H k x∧Fr w0.ds a n (FF k x)∧St w0 w (LL k x)) (λ_ _ ha hw=>⟨x0,h0,ha.all hF,hL ▸ hw.less (sel_sub L m)⟩)
  λk hk a w ⟨x,hx,ha,hw⟩=>hr k x hk hx a w ha hw
theorem againX {T:Type} {N:Nat} {FF:Nat→T→Slots} {LL:Nat→T→Blocks} {H:Nat→T→Prop} {k:Nat} {R:Exit→Act→World→Prop} (y:T) (m:List Bool) (hk:k<N) (hy:H (k+1) y) (hF:∀ p∈FF (k+1) y,F.lookup p.1=some p.2) (hL:sel L m=LL (k+1) y) :
  X w0 n (Exit.then (NextX w0 n N FF LL H k) R) F L .normal:=λ_ _ ha hw=>⟨hk,y,hy,ha.all hF,hL ▸ hw.less (sel_sub L m)⟩
def NextK (w0:Base) (n N:Nat) (FF:Nat→Slots) (LL:Nat→Blocks) (k:Nat):Act→World→Prop:=λa w=>k<N∧Fr w0.ds a n (FF (k+1))∧St w0 w (LL (k+1))
theorem loopK {c:Code} (N:Nat) (FF:Nat→Slots) (LL:Nat→Blocks) (m:List Bool) {M:Blocks} (hF:∀ p∈FF 0,F.lookup p.1=some p.2) (hL:sel L m=M) (hM:M=LL 0)
  (hr:∀ k,k≤N→wpC P w0 n (Exit.then (NextK w0 n N FF LL k) Q) (FF k) (LL k) c):wpC P w0 n Q F L (.loop c) :=
 loopI N (λk a w=>Fr w0.ds a n (FF k)∧St w0 w (LL k)) (λ_ _ ha hw=>⟨ha.all hF,hM ▸ hL ▸ hw.less (sel_sub L m)⟩)
  λk hk a w ⟨ha,hw⟩=>hr k hk a w ha hw
theorem againK {N:Nat} {FF:Nat→Slots} {LL:Nat→Blocks} {k:Nat} {R:Exit→Act→World→Prop} (m:List Bool) {M:Blocks} (hk:k<N) (hF:∀ p∈FF (k+1),F.lookup p.1=some p.2) (hL:sel L m=M) (hM:M=LL (k+1)) :
  X w0 n (Exit.then (NextK w0 n N FF LL k) R) F L .normal:=λ_ _ ha hw=>⟨hk,ha.all hF,hM ▸ hL ▸ hw.less (sel_sub L m)⟩
theorem bcons {x y:Nat×TypeId×Array Value} {l m:Blocks} (h:x=y) (k:l=m):x::l=y::m:=by rw [h,k]
theorem beq {g:Nat} {t:TypeId} {a b:Array Value} (h:a=b):(g,t,a)=(g,t,b):=by rw [h]
theorem Makes.slice (t e:TypeId) (i:TypeInfo) (z:Value) (s b:Nat) (x y:Operand) (kl kc:IntKind) (m:Nat) (c:List Value) (ho:o.op=.makeSlice t x y) (hx:evF F x=.int kl (m:Int)) (hy:evF F y=.int kc (m:Int)) (ht:P.underlying t=some (.slice e)) (hi:P.info? e=some i) (hz:i.zero=some z) (hs:i.size=s) (hs0:0<s) (hb:i.bytes=b)
  (hc:z.cells.toList=c) (hcl:c.length=s) (hbytes:b*m≤281474976710656) (h63:m≤9223372036854775807):Makes P F o e (flat (λ_=>c) m).toArray (λg=>.slice (some ⟨g,0,none⟩) m m):=λw=>by
 subst hs hb
 have hb:(i.bytes:Int)*(m:Int)≤281474976710656:=by
  have h:((i.bytes*m:Nat):Int)≤281474976710656:=by omega
  rwa [Int.natCast_mul] at h
 have hr:=run_make (P:=P) w t e i z ht hi hz kl kc m m (by omega) (Int.le_refl _) hb (by omega)
 simp only [Int.toNat_natCast] at hr
 unfold execOp
 simp only [ho,hx,hy,Sem.run_bind,Sem.run_pure,hr,Result.andThen_ok]
 rw [flat_const c hcl hs0 m z.cells hc]
theorem Writes.part (f:Nat) {g:Nat} {t:TypeId} {cs cs':Array Value} (ty:TypeId) (vs:List Value) (x y:Operand) (ho:o.op=.store ty x y) (hx:evF F x=.pointer (some ⟨g,f,none⟩)) (hy:evF F y=.agg vs.toArray)
  (hi:(P.info? ty).map (·.size)=some vs.length) (hk:f+vs.length≤cs.size) (h1:vs.toArray.all (·.oneCell')=true) (hcs:setAll cs f vs=cs'):Writes P F o g t cs cs' :=
 Writes.store f ty vs.toArray x y ho hx hy (by simpa using hi) (by simpa using hk) h1 (by simpa using hcs)
end
end Sy
end
section
namespace Sy
open Go.RowKit
abbrev mark (D:Nat):Deferred:={ target:=.collected D,args:=#[] }
theorem St.refix {w0:Base} {w:World} {L:Blocks} (h:St w0 w L) (ds:List Deferred) (fe:Fence) (ro:Nat):St ⟨w0.world,w,ds,fe,ro⟩ w L:=⟨h.below,h.blk,h.apart,Nat.le_refl _,λ_ _ _ h _=>h⟩
theorem St.back {w0:Base} {W w:World} {L L':Blocks} (h0:St w0 W L) {ds:List Deferred} {fe:Fence} {ro:Nat} (h:St ⟨w0.world,W,ds,fe,ro⟩ w L') (ds':List Deferred) (fe':Fence) (ro':Nat):St ⟨w0.world,w0.fz,ds',fe',ro'⟩ w L' :=
 ⟨h.below,h.blk,h.apart,Nat.le_trans h0.size h.size,λk o hk ho hc=>h.non k o hk (h0.non k o hk ho hc) hc⟩
theorem St.own {w0:Base} {X Y:World} {L:Blocks} {B:Nat} {row:Option Nat} (h:St w0 X L) (hB:w0.fz.heap.size≤B) (hB2:w0.world.heap.size≤B) (hg:X.grownBy Y row) (hr:∀ r,row=some r→B≤r∧∃ o:Obj,X.heap[r]? = some o∧o.isCells=false):St w0 Y L:=by
 refine ⟨?_,λg t cs hm=>⟨(h.blk g t cs hm).1,(h.blk g t cs hm).2.grown hg (λe=>?_)⟩,h.apart,Nat.le_trans h.size hg.size,λk o hk ho hc=>?_⟩
 ·refine h.below.trans ⟨hg.os,hg.tape,hg.output,hg.size,λk hk=>hg.block k (Nat.lt_of_lt_of_le hk h.below.size) (λe=>?_)⟩
  have:=(hr k e.symm).1
  omega
 ·obtain ⟨o,ho,hc⟩:=(hr g e.symm).2
  have hb:=(h.blk g t cs hm).2
  unfold Blk at hb
  rw [hb] at ho
  cases ho
  cases hc
 ·have h1:=h.non k o hk ho hc
  have hlt:=(Array.getElem?_eq_some_iff.1 ho).1
  exact (hg.block k (Array.getElem?_eq_some_iff.1 h1).1 (λe=>by have:=(hr k e.symm).1; omega)).trans h1
def roundF (F:Slots) (ps:Array Tmp) (vs:Array Value):Slots:=(ps.toList.zip vs.toList).foldl (λF x=>(x.1,x.2)::F) F
theorem Fr.round {ds:List Deferred} {n:Nat}:∀ (l:List (Tmp×Value)) {T:Array Value} {F:Slots},(∀ x∈l,x.1<n)→Fr ds { tmps:=T,defers:=ds } n F→Fr ds { tmps:=l.foldl (λt x=>t.setIfInBounds x.1 x.2) T,defers:=ds } n (l.foldl (λF x=>(x.1,x.2)::F) F)
 | [],_,_,_,h=>h
 | x::l,T,F,hl,h=>by
  have h2:=h.put (d:=some x.1) (decide_eq_true (hl x (List.mem_cons_self ..))) x.2
  exact Fr.round l (λy hy=>hl y (List.mem_cons_of_mem _ hy)) h2
section
variable {P:Program} {w0 fz0:World} {n:Nat} {Q:Exit→Act→World→Prop} {F:Slots} {L:Blocks}
abbrev rb (w0 fz:World) (l:Nat):Base:=⟨w0,fz,[],Fence.wide.inRound l,7⟩
abbrev ab (w0 fz:World) (D:Nat):Base:=⟨w0,fz,[mark D],Fence.wide,9⟩
def GetsN (w:World) (R:Value→Blocks→Prop) (e:Ending) (w':World):Prop:=∃ v M,e=.returned v∧R v M∧Below w.heap.size w w'∧(∀ g t cs,(g,t,cs)∈M→w.heap.size≤g∧Blk w' g t cs)∧(M.map (·.1)).Nodup
theorem St.addN {w0:Base} {w w':World} {L M:Blocks} (h:St w0 w L) (hg:Gr w w') (hM:∀ g t cs,(g,t,cs)∈M→w.heap.size≤g∧Blk w' g t cs) (hn:(M.map (·.1)).Nodup):St w0 w' (L++M):=by
 have h':=h.gr hg
 refine ⟨h'.below,λg t cs hm=>?_,?_,h'.size,h'.non⟩
 ·rcases List.mem_append.1 hm with hm | hm
  ·exact h'.blk g t cs hm
  ·exact ⟨Nat.le_trans h.below.size (hM g t cs hm).1,(hM g t cs hm).2⟩
 ·rw [List.map_append,List.nodup_append]
  refine ⟨h.apart,hn,λx hx y hy e=>?_⟩
  obtain ⟨⟨g,t,cs⟩,hm,rfl⟩:=List.mem_map.1 hx
  obtain ⟨⟨g',t',cs'⟩,hm',rfl⟩:=List.mem_map.1 hy
  have h1:=(h.blk g t cs hm).2.lt
  have h2:=(hM g' t' cs' hm').1
  have e':g=g':=e
  omega
theorem callN {w0:Base} {ops:Array Oper} {o:Oper} {l:List Oper} (hg:good ops n F o=true) (f:FuncId) (args:Array Value) (he:∀ w,(execOp (evF F) o).run P w=.ok (.enter f args) w) (R:Value→Blocks→Prop)
  (hc:∀ w,St w0 w L→Calls P f args w (GetsN w R)) (h:∀ v M,R v M→wpS P w0 n ops Q (putF F o.dst v) (L++M) l):wpS P w0 n ops Q F L (o::l):=λa w ha hw=>by
 obtain ⟨g1,_,g3,_⟩:=good_spec hg
 refine wpList_step λK hK=>?_
 rw [if_pos (ha.wanted g1)]
 unfold Oper.wp
 rw [good_exec hg ha,he w]
 refine Calls.mono (hc w hw) λe w' he'=>?_
 obtain ⟨v,M,rfl,hR,hb,hM,hn⟩:=he'
 exact hK _ _ (h v M hR _ _ (ha.put g3 v) (hw.addN hb hM hn))
end
end Sy
end
section
namespace Sy
open Go.RowKit
section
variable {P:Program} {W:World} {m n:Nat} {Q:Exit→Act→World→Prop} {F:Slots} {L:Blocks} {ops:Array Oper} {o:Oper} {rest:List Oper}
theorem operIn_wide {o:Oper} {a:Act} {w:World} {K:Act→World→Prop} (hd:∀ c,o.op≠.defer c) (h:o.wp P a w K Q):o.wpIn Fence.wide m P a w K Q:=by
 unfold Oper.wpIn
 refine ⟨λ_ _=>trivial,?_⟩
 rw [Oper.semAt_plain _ _ _ hd]
 unfold Oper.wp at h
 generalize (execOp a.eval o).run P w=r at *
 cases r with
 | ok x w' =>
  cases x <;> simp only [Oper.upon,Oper.uponIn] at h ⊢ <;> first
   | exact h
   | exact ⟨λe=>by simp [Fence.wide] at e,callsIn_wide.2 h⟩
   | exact ⟨λe=>by simp [Fence.wide] at e,λc cs _=>let ⟨v,w',r,s⟩:=h c cs; ⟨v,w',r,stepsIn_wide.2 s⟩⟩
   | exact h.elim
 | halt x w'=>cases x <;> simp only [Oper.upon,Oper.uponIn] at h ⊢ <;> exact h
def thenI (P:Program) (ops:Array Oper) (m:Nat) (rest:List Oper) (Q:Exit→Act→World→Prop):Exit→Act→World→Prop
 | .normal,a,w=>wpListIn Fence.wide m P ops Q rest a w
 | e,a,w=>Q e a w
theorem listIn_app (hq:¬ LetsOut Q):∀ (l:List Oper),(∀ o∈l, ∀ c,o.op≠.defer c)→∀ (a:Act) (w:World),wpList P ops (thenI P ops m rest Q) l a w→wpListIn Fence.wide m P ops Q (l++rest) a w
 | [],_,_,_,h=>h
 | o::l,hd,a,w,h=>by
  have hq':¬ LetsOut (thenI P ops m rest Q):=λ⟨a,w,q⟩=>hq ⟨a,w,q⟩
  unfold wpList at h
  show wpListIn Fence.wide m P ops Q (o::(l++rest)) a w
  unfold wpListIn
  split
  ·rename_i hw
   simp only [hw,if_true] at h
   rcases h with h | h
   ·have h1:=operIn_wide (m:=m) (hd o (by simp)) h
    have h2:o.wpIn Fence.wide m P a w _ Q:=h1
    exact Oper.wpIn_mono (λa w h'=>listIn_app hq l (λo ho=>hd o (by simp [ho])) a w h') h2
   ·exact absurd h.2 hq'
  ·rename_i hw
   simp only [hw] at h
   exact ⟨λ_ _=>trivial,listIn_app hq l (λo ho=>hd o (by simp [ho])) _ _ h⟩
theorem listIn_wide (hq:¬ LetsOut Q):∀ (l:List Oper),(∀ o∈l, ∀ c,o.op≠.defer c)→∀ (a:Act) (w:World),wpList P ops Q l a w→wpListIn Fence.wide m P ops Q l a w
 | [],_,_,_,h=>h
 | o::l,hd,a,w,h=>by
  unfold wpList at h
  unfold wpListIn
  split
  ·rename_i hw
   simp only [hw,if_true] at h
   rcases h with h | h
   ·exact Oper.wpIn_mono (λa w h'=>listIn_wide hq l (λo ho=>hd o (by simp [ho])) a w h') (operIn_wide (hd o (by simp)) h)
   ·exact absurd h.2 hq
  ·rename_i hw
   simp only [hw] at h
   exact ⟨λ_ _=>trivial,listIn_wide hq l (λo ho=>hd o (by simp [ho])) _ _ h⟩
theorem noDefer_mem (h:noDefer ops=true) {o:Oper} (ho:o∈ops.toList):∀ c,o.op≠.defer c:=by
 obtain ⟨i,hi⟩:=List.mem_iff_getElem?.1 ho
 exact noDefer_spec h (by simpa using hi)
end
end Sy
end
section
namespace Sy
open Go.RowKit
section
variable {P:Program} {w0 fz0:World} {n:Nat} {Q:Exit→Act→World→Prop} {F:Slots} {L:Blocks}
end
end Sy
end
section
section
theorem kR {α:Sort _} {a b:α} (h:a=b:=by kernel_rfl):a=b:=h
theorem kL {a b:Nat} (h:Nat.ble a b=true:=by kernel_rfl):a≤b:=Nat.le_of_ble_eq_true h
theorem kF {α:Sort _} {β:α→Sort _} {f g:(x:α)→β x} (h:∀ x,f x=g x:=by intro _; kernel_rfl) (x:α):f x=g x:=h x
end
end
section
namespace Sy
open Go.RowKit
section
variable {P:Program} {w0:Base} {n:Nat} {Q:Exit→Act→World→Prop} {F:Slots} {L:Blocks} {ops:Array Oper} {o:Oper} {l:List Oper}
theorem qF {v:Value} (f:FuncId) (args:Array Value) (h:∀ w,Calls P f args w λe w'=>e=.returned v∧Below w.heap.size w w') (he:∀ w,(execOp (evF F) o).run P w=.ok (.enter f args) w:=by intro _; kernel_rfl):Quiet P w0 F L o v:=Quiet.call f args he h
theorem qG {v:Value} (f:FuncId) (args:Array Value) (h:∀ w,St w0 w L→Calls P f args w (Gets w v)) (he:∀ w,(execOp (evF F) o).run P w=.ok (.enter f args) w:=by intro _; kernel_rfl):Quiet P w0 F L o v:=Quiet.callS f args he h
theorem qL {x:Operand} {d:TypeDesc} {v:Value} (i g f k:Nat) (t ty:TypeId) (cs:Array Value) (ho:o.op=.load ty x) (hu:P.underlying ty=some d) (hx:evF F x=.pointer (some ⟨g,f,none⟩):=by kernel_rfl)
  (hL:L[i]? = some (g,t,cs):=by kernel_rfl) (hd:d.isRow=true:=by rfl) (hi:(P.info? ty).map (·.size)=some k:=by kernel_rfl) (hv:Value.agg ((cs.toList.drop f).take k).toArray=v:=by kernel_rfl) (hk:Nat.ble (f+k) cs.size=true:=by kernel_rfl):Quiet P w0 F L o v :=
 Quiet.load i g f k t ty cs d x ho hx hL hu hd hi v hv (Nat.le_of_ble_eq_true hk)
theorem qC {x:Operand} {d:TypeDesc} {v:Value} (i g f:Nat) (t ty:TypeId) (cs:Array Value) (ho:o.op=.load ty x) (hu:P.underlying ty=some d) (hx:evF F x=.pointer (some ⟨g,f,none⟩):=by kernel_rfl)
  (hL:L[i]? = some (g,t,cs):=by kernel_rfl) (hd:d.isRow=false:=by rfl) (hv:cs[f]? = some v:=by kernel_rfl):Quiet P w0 F L o v :=
 Quiet.cell i g f t ty cs d x ho hx hL hu hd v hv
theorem sS (v:Value) (hq:Quiet P w0 F L o v) (h:wpS P w0 n ops Q (putF F o.dst v) L l) (hg:good ops n F o=true:=by kernel_rfl):wpS P w0 n ops Q F L (o::l):=step hg v hq h
theorem sN (h:wpS P w0 n ops Q (putF F o.dst undef) L l) (hg:wantedF ops F o=some false:=by kernel_rfl) (hd:fits n o.dst=true:=by kernel_rfl):wpS P w0 n ops Q F L (o::l):=pass hg hd h
theorem sM (t:TypeId) (cs:Array Value) (h:∀ g,wpS P w0 n ops Q (putF F o.dst (ptr g)) (L++[(g,t,cs)]) l) (hg:good ops n F o=true:=by kernel_rfl) (hm:∀ w,(execOp (evF F) o).run P w=.ok (.value (ptr w.heap.size)) (w.alloc (.cells cs t)):=by intro _; kernel_rfl):wpS P w0 n ops Q F L (o::l):=make hg t cs ptr hm h
theorem sW (i g:Nat) (t:TypeId) (cs cs':Array Value) (hm:Writes P F o g t cs cs') (h:wpS P w0 n ops Q (putF F o.dst undef) (L.set i (g,t,cs')) l) (hg:good ops n F o=true:=by kernel_rfl) (hL:L[i]? = some (g,t,cs):=by kernel_rfl):wpS P w0 n ops Q F L (o::l):=write hg i g t cs cs' hL hm h
theorem wS {x y:Operand} (f:Nat) {g:Nat} {t:TypeId} {cs cs':Array Value} (ty:TypeId) (cells:Array Value) (ho:o.op=.store ty x y) (hx:evF F x=.pointer (some ⟨g,f,none⟩):=by kernel_rfl) (hy:evF F y=.agg cells:=by kernel_rfl)
  (hi:(P.info? ty).map (·.size)=some cells.size:=by kernel_rfl) (hk:Nat.ble (f+cells.size) cs.size=true:=by kernel_rfl) (h1:cells.all (·.oneCell')=true:=by kernel_rfl) (hcs:setAll cs f cells.toList=cs':=by kernel_rfl):Writes P F o g t cs cs' :=
 Writes.store f ty cells x y ho hx hy hi (Nat.le_of_ble_eq_true hk) h1 hcs
theorem wO {x y:Operand} (f:Nat) {g:Nat} {t:TypeId} {cs cs':Array Value} (ty:TypeId) (v:Value) (ho:o.op=.store ty x y) (hx:evF F x=.pointer (some ⟨g,f,none⟩):=by kernel_rfl) (hy:evF F y=v:=by kernel_rfl)
  (hi:(P.info? ty).map (·.size)=some 1:=by kernel_rfl) (hv:v.cells=#[v]:=by rfl) (h1:v.oneCell'=true:=by rfl) (hk:Nat.ble (f+1) cs.size=true:=by kernel_rfl) (hcs:cs.setIfInBounds f v=cs':=by kernel_rfl):Writes P F o g t cs cs' :=
 Writes.one f ty v x y ho hx hy hi hv h1 (Nat.le_of_ble_eq_true hk) hcs
variable {ex:Nat→Bool} {fuel:Nat} {listed:Array Bool}
theorem sD (i:Nat) {oi:Oper} (hi0:ops.toList[i]? = some oi) (v:Value) (hq:Quiet P w0 F L oi v) (h:wpD P w0 n ops Q ex (putF F oi.dst v) L fuel (listed.setIfInBounds i true)) (hc:canTake .any ops listed ex i=true:=by kernel_rfl)
  (hg:good ops n F oi=true:=by kernel_rfl) (hQ:∀ c v a w,Q (.panic c) (a.put oi.dst v) w→Q (.panic c) a w:=by exact λ_ _ _ _ h=>h):wpD P w0 n ops Q ex F L (fuel+1) listed:=stepD i hi0 hc hQ hg v hq h
theorem sQ (i:Nat) {oi:Oper} (hi0:ops.toList[i]? = some oi) (h:wpD P w0 n ops Q ex (putF F oi.dst undef) L fuel (listed.setIfInBounds i true)) (hc:canTake .any ops listed ex i=true:=by kernel_rfl)
  (hg:wantedF ops F oi=some false:=by kernel_rfl) (hd:fits n oi.dst=true:=by kernel_rfl) (hQ:∀ c v a w,Q (.panic c) (a.put oi.dst v) w→Q (.panic c) a w:=by exact λ_ _ _ _ h=>h):wpD P w0 n ops Q ex F L (fuel+1) listed:=passD i hi0 hc hQ hg hd h
theorem sX (k:Nat) {oi:Oper} (hi0:ops.toList[k]? = some oi) (i g:Nat) (t:TypeId) (cs cs':Array Value) (hm:Writes P F oi g t cs cs') (h:wpD P w0 n ops Q ex (putF F oi.dst undef) (L.set i (g,t,cs')) fuel (listed.setIfInBounds k true))
  (hr:Region.ready .any ops listed=[k]:=by kernel_rfl) (hex:ex k=true:=by rfl) (hg:good ops n F oi=true:=by kernel_rfl) (hL:L[i]? = some (g,t,cs):=by kernel_rfl):wpD P w0 n ops Q ex F L (fuel+1) listed:=writeD k hi0 hr hex hg i g t cs cs' hL hm h
theorem sE (h:X w0 n Q F L .normal) (hr:Region.ready .any ops listed=[]:=by kernel_rfl):wpD P w0 n ops Q ex F L fuel listed:=doneD hr h
theorem sT {c:Operand} {x y:Code} (h:wpC P w0 n Q F L x) (hi:inF F c=true:=by kernel_rfl) (hc:evF F c=.bool true:=by kernel_rfl):wpC P w0 n Q F L (.cond c x y):=cond_t hi hc h
theorem sU {c:Operand} {x y:Code} (h:wpC P w0 n Q F L y) (hi:inF F c=true:=by kernel_rfl) (hc:evF F c=.bool false:=by kernel_rfl):wpC P w0 n Q F L (.cond c x y):=cond_f hi hc h
theorem sC {i:Nat} {y:Code} (h:wpS P w0 n ops (Exit.then (y.wpIn w0.fence w0.room P Q) Q) F L ops.toList) (hf:w0.fence=Fence.wide:=by rfl):wpC P w0 n Q F L (.seq (.region i ops false) y):=seq (region h hf)
theorem sB {i:Nat} {y:Code} (h:wpS P w0 n ops (Exit.then (y.wpIn w0.fence w0.room P Q) Q) F L ops.toList) (hf:w0.fence=Fence.wide:=by rfl):X w0 n (Exit.then ((Code.seq (.region i ops false) y).wpIn w0.fence w0.room P Q) Q) F L .normal:=then_ (sC h hf)
theorem sA {i:Nat} {y:Code} {ops0:Array Oper} (h:wpS P w0 n ops (Exit.then (y.wpIn w0.fence w0.room P Q) Q) F L ops.toList) (hf:w0.fence=Fence.wide:=by rfl):wpS P w0 n ops0 (Exit.then ((Code.seq (.region i ops false) y).wpIn w0.fence w0.room P Q) Q) F L []:=nil (sB h hf)
theorem sP (v:Value) (h:wpS P w0 n ops Q (putF F o.dst v) L l) (hp:∀ w,(execOp (evF F) o).run P w=.ok (.value v) w:=by intro _; kernel_rfl) (hg:good ops n F o=true:=by kernel_rfl):wpS P w0 n ops Q F L (o::l):=step hg v (Quiet.pure hp) h
theorem sZ (i:Nat) {oi:Oper} (hi0:ops.toList[i]? = some oi) (v:Value) (h:wpD P w0 n ops Q ex (putF F oi.dst v) L fuel (listed.setIfInBounds i true)) (hp:∀ w,(execOp (evF F) oi).run P w=.ok (.value v) w:=by intro _; kernel_rfl) (hc:canTake .any ops listed ex i=true:=by kernel_rfl)
  (hg:good ops n F oi=true:=by kernel_rfl) (hQ:∀ c v a w,Q (.panic c) (a.put oi.dst v) w→Q (.panic c) a w:=by exact λ_ _ _ _ h=>h):wpD P w0 n ops Q ex F L (fuel+1) listed:=stepD i hi0 hc hQ hg v (Quiet.pure hp) h
theorem sR {i:Nat} {y:Code} (ex:Nat→Bool) (h:wpD P w0 n ops (Exit.then (y.wpIn w0.fence w0.room P Q) Q) ex F L ops.size (Array.replicate ops.size false)) (hm:P.follows .mixedOrders=true:=by kernel_rfl) (hf:w0.fence=Fence.wide:=by rfl):X w0 n (Exit.then ((Code.seq (.region i ops true) y).wpIn w0.fence w0.room P Q) Q) F L .normal:=then_ (seq (regionD ex hm h hf))
theorem sH {i:Nat} {y:Code} {ops0:Array Oper} (ex:Nat→Bool) (h:wpD P w0 n ops (Exit.then (y.wpIn w0.fence w0.room P Q) Q) ex F L ops.size (Array.replicate ops.size false)) (hm:P.follows .mixedOrders=true:=by kernel_rfl) (hf:w0.fence=Fence.wide:=by rfl):wpS P w0 n ops0 (Exit.then ((Code.seq (.region i ops true) y).wpIn w0.fence w0.room P Q) Q) F L []:=nil (sR ex h hm hf)
theorem sG {y:Code} {ops0:Array Oper} (h:wpC P w0 n Q F L y):wpS P w0 n ops0 (Exit.then (y.wpIn w0.fence w0.room P Q) Q) F L []:=nil (then_ h)
def opV (F:Slots):Op→Option Value
 | .move (.tmp t)=>F.lookup t
 | .assign (.tmp t)=>F.lookup t
 | .move (.const v)=>some v
 | .assign (.const v)=>some v
 | .nilCheck (.tmp t)=>match F.lookup t with | some (.pointer (some a))=>some (.pointer (some a)) | _=>none
 | .extract (.tmp t) i=>match F.lookup t with | some (.tuple vs)=>vs[i]? | _=>none
 | _=>none
theorem opV_run {v:Value} (h:opV F o.op=some v) (w:World):(execOp (evF F) o).run P w=.ok (.value v) w:=by
 unfold execOp
 generalize o.op=op at h
 unfold opV at h
 split at h
 ·simp [evF,h]
 ·simp [evF,h]
 ·cases h; simp [evF]
 ·cases h; simp [evF]
 ·split at h
  ·rename_i a e
   cases h
   simp [evF,e]
  ·cases h
 ·split at h
  ·rename_i vs e
   simp [evF,e,Instr.extract,h]
  ·cases h
 ·cases h
theorem sp {v:Value} (hl:opV F o.op=some v) (h:wpS P w0 n ops Q (putF F o.dst v) L l) (hg:good ops n F o=true:=by kernel_rfl):wpS P w0 n ops Q F L (o::l):=step hg v (Quiet.pure (opV_run hl)) h
theorem sz (i:Nat) {oi:Oper} (hi0:ops.toList[i]? = some oi) {v:Value} (hl:opV F oi.op=some v) (h:wpD P w0 n ops Q ex (putF F oi.dst v) L fuel (listed.setIfInBounds i true)) (hc:canTake .any ops listed ex i=true:=by kernel_rfl)
  (hg:good ops n F oi=true:=by kernel_rfl) (hQ:∀ c v a w,Q (.panic c) (a.put oi.dst v) w→Q (.panic c) a w:=by exact λ_ _ _ _ h=>h):wpD P w0 n ops Q ex F L (fuel+1) listed:=stepD i hi0 hc hQ hg v (Quiet.pure (opV_run hl)) h
theorem sI {y:Code} (h:wpC P w0 n Q F L y) (hr:Region.ready .any ops listed=[]:=by kernel_rfl):wpD P w0 n ops (Exit.then (y.wpIn w0.fence w0.room P Q) Q) ex F L fuel listed:=doneD hr (then_ h)
theorem rC {w1:World} {fn:Func} {z:Tmp} {ty:TypeId} {d:TypeDesc} {v:Value} (t:TypeId) (g i:Nat) (cs:Array Value) (hr:fn.results=#[.cell z ty]) (h3:P.underlying ty=some d) (h1:F.lookup z=some (.pointer (some ⟨g,0,none⟩)):=by kernel_rfl) (h2:L[i]? = some (g,t,cs):=by kernel_rfl) (h4:d.isRow=true:=by rfl)
  (h5:(P.info? ty).map (·.size)=some cs.size:=by kernel_rfl) (h6:v=.agg cs:=by kernel_rfl):X (Base.of w1) n (bodyPost P fn (Gets w1 v)) F L .ret:=ret1 hr (.inl (Res.cell (ty':=t) g i cs d h1 h2 h3 h4 h5 h6))
theorem rV {w1:World} {fn:Func} {z:Tmp} (v:Value) (hr:fn.results=#[.tmp z]) (h:F.lookup z=some v:=by kernel_rfl):X (Base.of w1) n (bodyPost P fn (Gets w1 v)) F L .ret:=ret1 hr (.inl h)
end
end Sy
end
section
namespace Sy
open Go.RowKit
section
variable {P:Program} {w0:Base} {n:Nat} {Q:Exit→Act→World→Prop} {F:Slots} {L:Blocks} {ops:Array Oper} {o:Oper} {l:List Oper}
theorem qk {x:Operand} {d:TypeDesc} {v:Value} {g:Nat} {t ty:TypeId} {cs:Array Value} (i f k:Nat) (hL:L[i]? = some (g,t,cs)) (ho:o.op=.load ty x) (hu:P.underlying ty=some d) (hx:evF F x=.pointer (some ⟨g,f,none⟩):=by kernel_rfl)
  (hd:d.isRow=true:=by rfl) (hi:(P.info? ty).map (·.size)=some k:=by kernel_rfl) (hv:Value.agg ((cs.toList.drop f).take k).toArray=v:=by kernel_rfl) (hk:Nat.ble (f+k) cs.size=true:=by kernel_rfl):Quiet P w0 F L o v :=
 Quiet.load i g f k t ty cs d x ho hx hL hu hd hi v hv (Nat.le_of_ble_eq_true hk)
theorem qc {x:Operand} {d:TypeDesc} {v:Value} {g:Nat} {t ty:TypeId} {cs:Array Value} (i f:Nat) (hL:L[i]? = some (g,t,cs)) (ho:o.op=.load ty x) (hu:P.underlying ty=some d) (hx:evF F x=.pointer (some ⟨g,f,none⟩):=by kernel_rfl)
  (hd:d.isRow=false:=by rfl) (hv:cs[f]? = some v:=by kernel_rfl):Quiet P w0 F L o v :=
 Quiet.cell i g f t ty cs d x ho hx hL hu hd v hv
theorem qf {v:Value} {f:FuncId} {args:Array Value} (h:∀ w,Calls P f args w λe w'=>e=.returned v∧Below w.heap.size w w') (he:∀ w,(execOp (evF F) o).run P w=.ok (.enter f args) w:=by intro _; kernel_rfl):Quiet P w0 F L o v:=Quiet.call f args he h
theorem qg {v:Value} {f:FuncId} {args:Array Value} (h:∀ w,St w0 w L→Calls P f args w (Gets w v)) (he:∀ w,(execOp (evF F) o).run P w=.ok (.enter f args) w:=by intro _; kernel_rfl):Quiet P w0 F L o v:=Quiet.callS f args he h
theorem sw {g:Nat} {t:TypeId} {cs:Array Value} (i:Nat) (hL:L[i]? = some (g,t,cs)) (cs':Array Value) (hm:Writes P F o g t cs cs') (h:wpS P w0 n ops Q (putF F o.dst undef) (L.set i (g,t,cs')) l) (hg:good ops n F o=true:=by kernel_rfl):wpS P w0 n ops Q F L (o::l):=write hg i g t cs cs' hL hm h
theorem wA {x y:Operand} {g:Nat} {t ty:TypeId} {cs cells:Array Value} (ho:o.op=.store ty x y) (hx:evF F x=.pointer (some ⟨g,0,none⟩):=by kernel_rfl) (hy:evF F y=.agg cells:=by kernel_rfl)
  (hi:(P.info? ty).map (·.size)=some cells.size:=by kernel_rfl) (hk:Nat.ble (0+cells.size) cs.size=true:=by kernel_rfl) (h1:cells.all (·.oneCell')=true:=by kernel_rfl) (hcs:setAll cs 0 cells.toList=cells:=by kernel_rfl):Writes P F o g t cs cells :=
 Writes.store 0 ty cells x y ho hx hy hi (Nat.le_of_ble_eq_true hk) h1 hcs
theorem wB {x y:Operand} {g:Nat} {t ty:TypeId} {cs cs':Array Value} (f:Nat) (cells:Array Value) (ho:o.op=.store ty x y) (hx:evF F x=.pointer (some ⟨g,f,none⟩):=by kernel_rfl) (hy:evF F y=.agg cells:=by kernel_rfl)
  (hi:(P.info? ty).map (·.size)=some cells.size:=by kernel_rfl) (hk:Nat.ble (f+cells.size) cs.size=true:=by kernel_rfl) (h1:cells.all (·.oneCell')=true:=by kernel_rfl) (hcs:setAll cs f cells.toList=cs':=by kernel_rfl):Writes P F o g t cs cs' :=
 Writes.store f ty cells x y ho hx hy hi (Nat.le_of_ble_eq_true hk) h1 hcs
variable {ex:Nat→Bool} {fuel:Nat} {listed:Array Bool}
theorem sx {g:Nat} {t:TypeId} {cs:Array Value} (k:Nat) {oi:Oper} (hi0:ops.toList[k]? = some oi) (i:Nat) (hL:L[i]? = some (g,t,cs)) (cs':Array Value) (hm:Writes P F oi g t cs cs') (h:wpD P w0 n ops Q ex (putF F oi.dst undef) (L.set i (g,t,cs')) fuel (listed.setIfInBounds k true))
  (hr:Region.ready .any ops listed=[k]:=by kernel_rfl) (hex:ex k=true:=by rfl) (hg:good ops n F oi=true:=by kernel_rfl):wpD P w0 n ops Q ex F L (fuel+1) listed:=writeD k hi0 hr hex hg i g t cs cs' hL hm h
theorem rc {w1:World} {fn:Func} {z:Tmp} {ty t:TypeId} {d:TypeDesc} {v:Value} {g:Nat} {cs:Array Value} (i:Nat) (h2:L[i]? = some (g,t,cs)) (hr:fn.results=#[.cell z ty]) (h3:P.underlying ty=some d) (h1:F.lookup z=some (.pointer (some ⟨g,0,none⟩)):=by kernel_rfl) (h4:d.isRow=true:=by rfl)
  (h5:(P.info? ty).map (·.size)=some cs.size:=by kernel_rfl) (h6:v=.agg cs:=by kernel_rfl):X (Base.of w1) n (bodyPost P fn (Gets w1 v)) F L .ret:=ret1 hr (.inl (Res.cell (ty':=t) g i cs d h1 h2 h3 h4 h5 h6))
def Turns (w0:Base) (R:Value→Blocks→Prop) (e:Ending) (w':World):Prop:=∃ v M,e=.returned v∧R v M∧St w0 w' M
theorem callT {f:FuncId} {args:Array Value} {R:Value→Blocks→Prop} (hc:∀ w,St w0 w L→Calls P f args w (Turns w0 R)) (h:∀ v M,R v M→wpS P w0 n ops Q (putF F o.dst v) M l) (he:∀ w,(execOp (evF F) o).run P w=.ok (.enter f args) w:=by intro _; kernel_rfl) (hg:good ops n F o=true:=by kernel_rfl):wpS P w0 n ops Q F L (o::l):=λa w ha hw=>by
 obtain ⟨g1,_,g3,_⟩:=good_spec hg
 refine wpList_step λK hK=>?_
 rw [if_pos (ha.wanted g1)]
 unfold Oper.wp
 rw [good_exec hg ha,he w]
 refine Calls.mono (hc w hw) λe w' he'=>?_
 obtain ⟨v,M,rfl,hR,hM⟩:=he'
 exact hK _ _ (h v M hR _ _ (ha.put g3 v) hM)
abbrev Base.inn (w0:Base):Base:=⟨w0.world,w0.fz,[],Fence.wide,9⟩
theorem St.inn {w:World} (h:St w0 w L):St w0.inn w L:=⟨h.below,h.blk,h.apart,h.size,h.non⟩
theorem St.out {w:World} (h:St w0.inn w L):St w0 w L:=⟨h.below,h.blk,h.apart,h.size,h.non⟩
theorem enterT {f:FuncId} {fn:Func} {c:Code} {args:List Value} {w:World} {R:Ending→World→Prop} (hw:St w0 w L) (hf:P.funcs[f]? = some fn) (hb:fn.body=some c) (hn:args.length≤fn.ntmps)
  (h:wpC P w0.inn fn.ntmps (bodyPost P fn R) (slotsOf 0 args) L c):Calls P f args.toArray w R :=
 calls_of_wp hf hb (wpIn_wide.1 (h _ _ ⟨rfl,by simp; omega,λi v hi=>by
  have:=(lookup_slotsOf args 0 i v hi).2
  rw [Nat.sub_zero] at this
  have hl:=(List.getElem?_eq_some_iff.1 this).1
  rw [Array.getElem?_append_left (by simpa using hl)]
  simpa using this⟩ hw.inn))
theorem retT0 {fn:Func} {R:Value→Blocks→Prop} (hr:fn.results=#[]) (M:Blocks) (hM:∀ w,St w0 w L→St w0 w M) (h:∀ v,R v M) {e:Exit} (he:e=.ret∨e=.normal:=by first | exact .inl rfl | exact .inr rfl):X w0.inn n (bodyPost P fn (Turns w0 R)) F L e:=λa w ha hw=>by
 have hx:a.defers=[]∧∃ v,(results fn a.tmps).run P w=.ok v w∧Turns w0 R (.returned v) w:=⟨ha.1,_,results_none hr _ _ _,_,M,rfl,h _,hM w hw.out⟩
 rcases he with rfl | rfl <;> exact hx
theorem retT1 {fn:Func} {r:ResultVar} {v:Value} {R:Value→Blocks→Prop} (M:Blocks) (hr:fn.results=#[r]) (h:Has P F L r v) (hM:∀ w,St w0 w L→St w0 w M) (hR:R v M):X w0.inn n (bodyPost P fn (Turns w0 R)) F L .ret:=λa w ha hw=>by
 refine bodyPost_ret (v:=v) ?_ ha.1 ⟨v,M,rfl,hR,hM w hw.out⟩
 rcases Res.run h ha hw with ⟨t,rfl,e1⟩ | ⟨t,ty,ad,rfl,e1,e2⟩ <;> simp [results,Result.andThen, *]
theorem retT2 {fn:Func} {r s:ResultVar} {v u:Value} {R:Value→Blocks→Prop} (M:Blocks) (hr:fn.results=#[r,s]) (h:Has P F L r v) (k:Has P F L s u) (hM:∀ w,St w0 w L→St w0 w M) (hR:R (.tuple #[v,u]) M):X w0.inn n (bodyPost P fn (Turns w0 R)) F L .ret:=λa w ha hw=>by
 refine bodyPost_ret (v:=.tuple #[v,u]) ?_ ha.1 ⟨_,M,rfl,hR,hM w hw.out⟩
 rcases Res.run h ha hw with ⟨t,rfl,e1⟩ | ⟨t,ty,ad,rfl,e1,e2⟩ <;> rcases Res.run k ha hw with ⟨t',rfl,f1⟩ | ⟨t',ty',ad',rfl,f1,f2⟩ <;> simp [results,Result.andThen, *]
end
end Sy
end
section
namespace Sy
open Go.RowKit
section
variable {P:Program} {w0:Base} {n:Nat} {Q:Exit→Act→World→Prop} {F:Slots} {L:Blocks} {ops:Array Oper} {ex:Nat→Bool} {fuel:Nat} {listed:Array Bool}
end
end Sy
end
section
namespace Sy
open Go.RowKit
theorem St.perm {w0:Base} {w:World} {L M:Blocks} (h:St w0 w L) (p:L.Perm M):St w0 w M :=
 ⟨h.below,λg t cs hm=>h.blk g t cs (p.mem_iff.2 hm),(p.map _).nodup_iff.1 h.apart,h.size,h.non⟩
theorem perm_at {α:Type _} {l m:List α} (is:List Nat) (hi:is.isPerm (List.range l.length)=true) (hm:is.map (λi=>l[i]?)=m.map some):l.Perm m:=by
 have h1:(is.map (λi=>l[i]?)).Perm ((List.range l.length).map (λi=>l[i]?)):=(List.isPerm_iff.1 hi).map _
 have h2:(List.range l.length).map (λi=>l[i]?)=l.map some:=by
  refine List.ext_getElem (by simp) λi h _=>?_
  simp only [List.getElem_map,List.getElem_range]
  exact List.getElem?_eq_getElem (by simpa using h)
 rw [hm,h2] at h1
 have h3:=h1.filterMap id
 simpa [List.filterMap_map] using h3.symm
section
variable {P:Program} {w0:Base} {n:Nat} {Q:Exit→Act→World→Prop} {F:Slots} {L:Blocks} {ops:Array Oper} {ex:Nat→Bool} {fuel:Nat} {listed:Array Bool}
end
end Sy
end
section
namespace Sy
open Go.RowKit
section
variable {P:Program} {w0 fz0:World} {n:Nat} {Q:Exit→Act→World→Prop} {F:Slots} {L:Blocks}
abbrev ib (w0 fz:World):Base:=⟨w0,fz,[],Fence.wide,8⟩
def APZ {Z:Type} (w0 fz:World) (l n:Nat) (FA:Z→Slots) (LA:Z→Blocks):Exit→Act→World→Prop
 | .normal,a,w=>∃ z,Fr [] a n (FA z)∧St (rb w0 fz l) w (LA z)
 | _,_,_=>False
def BPZ {Y:Type} (w0 fz:World) (l:Nat) (HR:Y→Prop) (LR:Y→Blocks):Exit→Act→World→Prop
 | .normal,_,w=>∃ y,HR y∧St (rb w0 fz l) w (LR y)
 | _,_,_=>False
def RoundT {Y:Type} (w0 fz:World) (HR:Y→Prop) (LR:Y→Blocks) (e:Ending) (w:World):Prop:=e=.returned (.bool true)∧∃ y,HR y∧St (ib w0 fz) w (LR y)
def DoneT {Y:Type} (w0 fz:World) (HD:Y→Prop) (LD:Y→Blocks) (e:Ending) (w:World):Prop:=(∃ v,e=.returned v)∧∃ y,HD y∧St (ib w0 fz) w (LD y)
theorem rangeT {α Y Z:Type} {g:Operand} {ps:Array Tmp} {assign body:Code} (gf:Nat) (lb:Array Value) (hgi:inF F g=true) (hg:evF F g=.func (.func gf) #[] lb) (eg:∀ args w,(callFunc gf args).run P w=.ok (.enter gf args) w)
  (encs:α→Array Value) (hps:∀ x,(encs x).size=ps.size) (hpn:∀ p∈ps.toList,p<n)
  (HY:α→Y→Prop) (LY:α→Y→Blocks) (FA:α→Y→Z→Slots) (LA:α→Y→Z→Blocks) (HR:α→Y→Y→Prop) (LR:Y→Blocks) (HD:Y→Prop) (LD:Y→Blocks)
  (hiter:∀ l fz w,St (ib w0 fz) w L→(∀ x y W,HY x y→St (ib w0 fz) W (LY x y)→YieldAt Fence.wide 7 P l (encs x) W (RoundT w0 fz (HR x y) LR))→CallsIn Fence.wide 8 P gf (#[.func (.yield l) #[] #[]]++lb) w (DoneT w0 fz HD LD))
  (hassign:∀ l fz x y,HY x y→wpC P (rb w0 fz l) n (APZ w0 fz l n (FA x y) (LA x y)) (roundF F ps (encs x)) (LY x y) assign)
  (hbody:∀ l fz x y z,HY x y→wpC P (rb w0 fz l) n (BPZ w0 fz l (HR x y) LR) (FA x y z) (LA x y z) body)
  (hdone:∀ D fz y,HD y→w0.heap.size≤D→fz0.heap.size≤D→fz.heap[D]? = some (.deferred (some []))→St ⟨w0,fz0,[],Fence.wide,9⟩ fz (LD y)→X (ab w0 fz D) n Q F (LD y) .normal) :
  wpC P ⟨w0,fz0,[],Fence.wide,9⟩ n Q F L (.rangeFunc g ps assign body):=by
 intro a w ha hw
 refine wpIn_rangeFunc ?_
 intro fn hfn
 have hsz:fz0.heap.size≤w.heap.size:=hw.size
 have hsz0:w0.heap.size≤w.heap.size:=hw.below.size
 have had:a.defers=[]:=ha.1
 obtain ⟨rec,hrec⟩:∃ rec:LoopState→Option Code→Loop,rec=λst pe=>{ state:=st,pending:=pe,fn,tmps:=a.tmps,params:=ps,assign,body,defers:=w.heap.size }:=⟨_,rfl⟩
 obtain ⟨W1,hW1⟩:∃ W1,(w.alloc (.deferred (some []))).alloc (.loop (rec .ready none))=W1:=⟨_,rfl⟩
 have hL1:W1.heap[w.heap.size+1]? = some (.loop (rec .ready none)):=by
  rw [← hW1]; have:=World.alloc_heap_new (w.alloc (.deferred (some []))) (.loop (rec .ready none)); rwa [World.size_alloc] at this
 have hK1:W1.heap[w.heap.size]? = some (.deferred (some [])):=by
  rw [← hW1]; exact (Below.heap_alloc _ _ _ (by simp)).trans (World.alloc_heap_new w _)
 have hI1:St ⟨w0,fz0,[],Fence.wide,9⟩ W1 L:=by rw [← hW1]; exact (hw.gr (gr_alloc w _)).gr (gr_alloc _ _)
 refine ⟨w.heap.size+1,[{ target:=.collected w.heap.size,args:=#[] }],W1, { target:=.fn (.func gf) lb,args:=#[.func (.yield (w.heap.size+1)) #[] #[]] },W1,gf,
  #[.func (.yield (w.heap.size+1)) #[] #[]]++lb,W1,?_,?_,?_,?_,λ_=>(show 1≤9 by decide),?_⟩
 ·rw [← hW1,hrec]; exact run_enterLoop_outer _ _ _ _ _
 ·have he:a.eval g=.func (.func gf) #[] lb:=(ha.eval hgi).trans hg
  simp only [resolve,he]
  simp [go_sem]
 ·intro f' hf'; simp [Target.leads] at hf'; subst hf'; trivial
 ·simp [invoke,go_sem,eg]
 ·refine (hiter (w.heap.size+1) W1 W1 (hI1.refix _ _ _) ?_).mono ?_
  ·intro x y W hH hW
   have hWb:St ⟨w0,fz0,[],Fence.wide,9⟩ W (LY x y):=hI1.back hW _ _ _
   have hl:W.heap[w.heap.size+1]? = some (.loop (rec .ready none)):=hW.non _ _ (by show w0.heap.size≤_; omega) hL1 rfl
   have hy:=run_yield (P:=P) (args:=encs x) hl (by rw [hrec]; exact hps x)
   rw [hrec] at hy
   have hfr:Fr [] { tmps:=(ps.zip (encs x)).foldl (λt (p,v)=>t.setIfInBounds p v) a.tmps,defers:=[] } n (roundF F ps (encs x)):=by
    have h1:Fr [] { tmps:=a.tmps,defers:=[] } n F:=⟨rfl,ha.2.1,ha.2.2⟩
    have h2:=Fr.round (ps.toList.zip (encs x).toList) (λy hy=>hpn y.1 (List.of_mem_zip hy).1) h1
    have e:(ps.zip (encs x)).foldl (λt (p,v)=>t.setIfInBounds p v) a.tmps=(ps.toList.zip (encs x).toList).foldl (λt x=>t.setIfInBounds x.1 x.2) a.tmps:=by
     rw [← Array.foldl_toList,Array.toList_zip]
    rw [e]
    exact h2
   refine ⟨fn,_,assign,body,hy,roundIn_of_wpIn hfn (wpIn_mono (hassign (w.heap.size+1) W x y hH _ W hfr (hWb.refix _ _ _)) λe a1 w1 hq=>?_)⟩
   cases e with
   | normal =>
    obtain ⟨z,h1,h2⟩:=hq
    have hl1:w1.heap[w.heap.size+1]? = some (.loop (rec .ready none)):=h2.non _ _ (by show w0.heap.size≤_; omega) hl rfl
    have h2b:St ⟨w0,fz0,[],Fence.wide,9⟩ w1 (LA x y z):=hWb.back h2 _ _ _
    obtain ⟨w2,hw2⟩:∃ w2,w1.putObj (w.heap.size+1) (.loop { rec .ready none with state:=.busy })=w2:=⟨_,rfl⟩
    have hlt1:w.heap.size+1<w1.heap.size:=(Array.getElem?_eq_some_iff.1 hl1).1
    have hl2:w2.heap[w.heap.size+1]? = some (.loop { rec .ready none with state:=.busy }):=by rw [← hw2]; exact World.putObj_heap_same hlt1
    have h3b:St ⟨w0,fz0,[],Fence.wide,9⟩ w2 (LA x y z):=by
     rw [← hw2]
     exact St.own h2b hsz hsz0 (grownBy_putObj' _ _ _) (λr e=>by cases e; exact ⟨by omega,_,hl1,rfl⟩)
    refine ⟨w2,by rw [← hw2]; exact run_beginRound hl1 (by rw [hrec]),?_⟩
    refine wpIn_mono (hbody (w.heap.size+1) w2 x y z hH a1 w2 h1 (h3b.refix _ _ _)) λe a3 w3 hq=>?_
    cases e with
    | normal =>
     obtain ⟨y',hR,h4⟩:=hq
     have h4b:St ⟨w0,fz0,[],Fence.wide,9⟩ w3 (LR y'):=h3b.back h4 _ _ _
     have hl3:w3.heap[w.heap.size+1]? = some (.loop { rec .ready none with state:=.busy }):=h4.non _ _ (by show w0.heap.size≤_; omega) hl2 rfl
     have hr:=run_endRound (P:=P) none hl3
     rw [hrec] at hr
     have hlt3:w.heap.size+1<w3.heap.size:=(Array.getElem?_eq_some_iff.1 hl3).1
     have h5b:St ⟨w0,fz0,[],Fence.wide,9⟩ (w3.putObj (w.heap.size+1) (.loop (rec .ready none))) (LR y') :=
      St.own h4b hsz hsz0 (grownBy_putObj' _ _ _) (λr e=>by cases e; exact ⟨by omega,_,hl3,rfl⟩)
     have hg3:=grownBy_putObj' w3 (w.heap.size+1) (.loop (rec .ready none))
     refine ⟨_,_,hr,rfl,y',hR,?_⟩
     rw [hrec] at h5b
     refine ⟨h5b.below,h5b.blk,h5b.apart,?_,λk o hk ho hc=>?_⟩
     ·have q1:W1.heap.size≤W.heap.size:=hW.size
      have q2:W.heap.size≤w1.heap.size:=h2.size
      have q3:w1.heap.size≤w2.heap.size:=by rw [← hw2]; exact (grownBy_putObj' _ _ _).size
      have q4:w2.heap.size≤w3.heap.size:=h4.size
      have q5:=hg3.size
      rw [hrec] at q5
      exact Nat.le_trans q1 (Nat.le_trans q2 (Nat.le_trans q3 (Nat.le_trans q4 q5)))
     ·by_cases e:k=w.heap.size+1
      ·subst e
       rw [hL1] at ho
       cases ho
       rw [hrec]
       exact World.putObj_heap_same hlt3
      ·have e1:W.heap[k]? = some o:=hW.non k o hk ho hc
       have e2:w1.heap[k]? = some o:=h2.non k o hk e1 hc
       have e3:w2.heap[k]? = some o:=by rw [← hw2]; exact (World.putObj_heap_other e).trans e2
       have e4:w3.heap[k]? = some o:=h4.non k o hk e3 hc
       exact (World.putObj_heap_other e).trans e4
    | _=>exact hq.elim
   | _=>exact hq.elim
  ·rintro e W2 ⟨⟨v,rfl⟩,y,hD,hS⟩
   have hl:W2.heap[w.heap.size+1]? = some (.loop (rec .ready none)):=hS.non _ _ (by show w0.heap.size≤_; omega) hL1 rfl
   have hk:W2.heap[w.heap.size]? = some (.deferred (some [])):=hS.non _ _ (by show w0.heap.size≤_; omega) hK1 rfl
   have hSb:St ⟨w0,fz0,[],Fence.wide,9⟩ W2 (LD y):=hI1.back hS _ _ _
   obtain ⟨ob,hob⟩:∃ ob,(Instr.endLoop (w.heap.size+1)).run P W2=.ok none (W2.putObj (w.heap.size+1) ob):=⟨_,by have:=run_endLoop (P:=P) hl (by rw [hrec]; simp); rw [hrec] at this; exact this⟩
   refine ⟨none,_,hob,?_⟩
   have h4:St ⟨w0,fz0,[],Fence.wide,9⟩ (W2.putObj (w.heap.size+1) ob) (LD y):=St.own hSb hsz hsz0 (grownBy_putObj' _ _ _) (λr e=>by cases e; exact ⟨by omega,_,hl,rfl⟩)
   have h5:(W2.putObj (w.heap.size+1) ob).heap[w.heap.size]? = some (.deferred (some [])):=(World.putObj_heap_other (by omega)).trans hk
   exact hdone w.heap.size _ y hD hsz0 hsz h5 h4 _ _ ⟨by simp [had],ha.2.1,ha.2.2⟩ (h4.refix _ _ _)
theorem enterI {f:FuncId} {fn:Func} {c:Code} {args:List Value} {w:World} {R:Ending→World→Prop} (hw:St (ib w0 fz0) w L) (hf:P.funcs[f]? = some fn) (hb:fn.body=some c) (hn:args.length≤fn.ntmps)
  (h:wpC P (ib w0 fz0) fn.ntmps (bodyPost P fn R) (slotsOf 0 args) L c):CallsIn Fence.wide 8 P f args.toArray w R :=
 callsIn_of_wp hf hb trivial (h _ _ ⟨rfl,by simp; omega,λi v hi=>by
  have:=(lookup_slotsOf args 0 i v hi).2
  rw [Nat.sub_zero] at this
  have hl:=(List.getElem?_eq_some_iff.1 this).1
  rw [Array.getElem?_append_left (by simpa using hl)]
  simpa using this⟩ hw) rfl
theorem retI {fn:Func} {R:Ending→World→Prop} (hr:fn.results=#[]) (h:∀ v w,St (ib w0 fz0) w L→R (.returned v) w) {e:Exit} (he:e=.ret∨e=.normal):X (ib w0 fz0) n (bodyPost P fn R) F L e:=λa w ha hw=>by
 have hx:a.defers=[]∧∃ v,(results fn a.tmps).run P w=.ok v w∧R (.returned v) w:=⟨ha.1,_,results_none hr _ _ _,h _ w hw⟩
 rcases he with rfl | rfl <;> exact hx
variable {ops:Array Oper} {o:Oper} {rest:List Oper}
theorem regionI {i:Nat} (k:Nat) (hq:¬ LetsOut Q) (hd:noDefer ops=true) (h:wpS P (ib w0 fz0) n ops (thenI P ops 8 (ops.toList.drop k) Q) F L (ops.toList.take k)):wpC P (ib w0 fz0) n Q F L (.region i ops false):=λa w ha hw=>by
 refine wpIn_region_list ?_
 have h1:=listIn_app hq (ops.toList.take k) (λo ho=>noDefer_mem hd (List.mem_of_mem_take ho)) a w (h a w ha hw)
 rwa [List.take_append_drop] at h1
theorem yieldI {Y:Type} {HR:Y→Prop} {LR:Y→Blocks} {k:Nat} (hl:ops.toList.drop k=o::rest) (hq:¬ LetsOut Q) (hd:noDefer ops=true) (hg:good ops n F o=true) (l:Nat) (args:Array Value) (he:∀ w,(execOp (evF F) o).run P w=(Instr.yield l args).run P w)
  (hY:∀ w,St (ib w0 fz0) w L→YieldAt Fence.wide 7 P l args w (RoundT w0 fz0 HR LR)) (h:∀ y,HR y→wpS P (ib w0 fz0) n ops Q (putF F o.dst (.bool true)) (LR y) rest):X (ib w0 fz0) n (thenI P ops 8 (ops.toList.drop k) Q) F L .normal:=λa w ha hw=>by
 show wpListIn Fence.wide 8 P ops Q (ops.toList.drop k) a w
 have hdr:∀ o∈ops.toList.drop k, ∀ c,o.op≠.defer c:=λo ho=>noDefer_mem hd (List.mem_of_mem_drop ho)
 rw [hl] at hdr ⊢
 obtain ⟨g1,_,g3,_⟩:=good_spec hg
 unfold wpListIn
 rw [if_pos (ha.wanted g1)]
 unfold Oper.wpIn
 refine ⟨λ_ _=>trivial,?_⟩
 rw [Oper.semAt_plain _ _ _ (hdr o (by simp)),good_exec hg ha,he w]
 obtain ⟨fn,tmps,assign,body,e1,e2⟩:=hY w hw
 rw [e1]
 refine ⟨λe=>by simp [Fence.wide] at e,e2.mono λe w' hr=>?_⟩
 obtain ⟨rfl,y,hy,hS⟩:=hr
 exact listIn_wide hq rest (λo ho=>hdr o (by simp [ho])) _ _ (h y hy _ _ (ha.put g3 _) hS)
theorem enterTM {b0:Base} {f:FuncId} {fn:Func} {c:Code} {args:List Value} {w:World} {R:Ending→World→Prop} (hw:St b0 w L) (hf:P.funcs[f]? = some fn) (hb:fn.body=some c) (hn:args.length≤fn.ntmps)
  (h:wpC P b0.inn fn.ntmps (bodyPostM Fence.wide 9 P fn R) (slotsOf 0 args) L c):Calls P f args.toArray w R :=
 (callsIn_wide (n:=9)).1 (callsIn_of_wp_marks hf hb trivial (h _ _ ⟨rfl,by simp; omega,λi v hi=>by
  have:=(lookup_slotsOf args 0 i v hi).2
  rw [Nat.sub_zero] at this
  have hl:=(List.getElem?_eq_some_iff.1 this).1
  rw [Array.getElem?_append_left (by simpa using hl)]
  simpa using this⟩ hw.inn) rfl)
theorem retTM1 {b0:Base} {L0 M:Blocks} {fz:World} {D:Nat} {fn:Func} {r:ResultVar} {v:Value} {R:Value→Blocks→Prop} (hr:fn.results=#[r]) (h:Has P F L r v) (hM:∀ w,St b0 w L→St b0 w M) (hR:R v M) (hD:b0.world.heap.size≤D) (hD2:b0.fz.heap.size≤D) (hm:fz.heap[D]? = some (.deferred (some []))) (h0:St b0 fz L0):X (ab b0.world fz D) n (bodyPostM Fence.wide 9 P fn (Turns b0 R)) F L .ret:=λa w ha hw=>by
 have ho:=hw.non D _ hD hm rfl
 have hg:=grownBy_putObj' w D (.deferred none)
 have h1:St b0 w L:=h0.back hw b0.ds b0.fence b0.room
 have h2:St b0 (w.putObj D (.deferred none)) L:=h1.own (B:=D) hD2 hD hg (λr e=>by cases e; exact ⟨Nat.le_refl _,_,ho,rfl⟩)
 have hd:a.defers=[mark D]:=ha.1
 show LeavesInM Fence.wide 9 P fn a.tmps (Turns b0 R) a.defers .returning w
 rw [hd]
 refine ⟨by simp,.inl ⟨D,_,rfl,run_takeDeferred ho,?_⟩⟩
 refine ⟨v,?_,v,M,rfl,hR,hM _ h2⟩
 rcases Res.run h ha h2 with ⟨t,rfl,f1⟩ | ⟨t,ty,ad,rfl,f1,f2⟩ <;> simp [results,Result.andThen, *]
end
end Sy
end
section
namespace Sy
open Go.RowKit
section
variable {P:Program} {w0:Base} {n:Nat} {Q:Exit→Act→World→Prop} {F:Slots} {L:Blocks} {ops:Array Oper} {o:Oper} {l:List Oper}
def From (w0:Base) (L:Blocks) (A:Option Addr) (news:List Value):Prop:=∀ w,St w0 w L→(news=[]∨∃ a,A=some a∧∀ j u,news[j]? = some u→w.cell? (a.add j)=some u)
theorem From.blk {i g f:Nat} {t:TypeId} {cs:Array Value} {news:List Value} (hL:L[i]? = some (g,t,cs)) (hn:(cs.toList.drop f).take news.length=news):From w0 L (some ⟨g,f,none⟩) news:=λw hw =>
 .inr ⟨_,rfl,λj u hj=>by
  rw [addr_off]
  exact blk_range (hw.get hL) hn j u hj⟩
theorem appendG (hg:good ops n F o=true) (ts e:TypeId) (inf:TypeInfo) (z:Value) (sz by_:Nat) (ht:P.underlying ts=some (.slice e)) (hinf:P.info? e=some inf) (hz:inf.zero=some z) (hs1:inf.size=sz) (hb1:inf.bytes=by_) (hzs:z.cells.size=sz) (h0:0<sz)
  (s x:Operand) (ho:o.op=.call { callee:=.builtin .append,args:=#[s,x],argTypes:=#[ts,ts] })
  (i g len cap:Nat) (old sp:List Value) (hs:evF F s=.slice (some ⟨g,0,none⟩) len cap) (hL:L[i]? = some (g,e,(old++sp).toArray)) (hlen:old.length=len*sz) (hsp:sp.length+len*sz=cap*sz) (hmax:cap≤maxLen)
  (A:Option Addr) (m c:Nat) (news:List Value) (hx:evF F x=.slice A m c) (hf:From w0 L A news) (hm:news.length=m*sz) (hmc:m≤c) (h1:∀ u∈news,u.oneCell'=true) (hsmall:(len+m)*by_≤140737488355328) (h63:len+m≤maxLen)
  (h:∀ (g' cap':Nat) (sp':List Value),sp'.length+(len+m)*sz=cap'*sz→len+m≤cap'→cap'≤maxLen→wpS P w0 n ops Q (putF F o.dst (.slice (some ⟨g',0,none⟩) (len+m) cap')) (L.set i (g',e,(old++news++sp').toArray)) l):wpS P w0 n ops Q F L (o::l):=λa w ha hw=>by
 obtain ⟨k1,_,k3,_⟩:=good_spec hg
 refine wpList_step λK hK=>?_
 rw [if_pos (ha.wanted k1)]
 have hb:=hw.get hL
 have hle:len≤cap:=Nat.le_of_mul_le_mul_right (by omega) h0
 have step:∀ v' w',(Builtin.append_ #[ts,ts] o.type #[.slice (some ⟨g,0,none⟩) len cap,.slice A m c]).run P w=.ok v' w'→K (a.put o.dst v') w'→o.wp P a w K Q:=λv' w' hr hk=>by
  unfold Oper.wp
  rw [good_exec hg ha]
  unfold execOp
  simp only [ho,resolve,invoke,builtin,Sem.run_bind,Sem.run_pure,Result.andThen_ok,List.map_toArray,List.map_cons,List.map_nil,hs,hx,hr]
  exact hk
 rcases hf w hw with rfl | ⟨ad,rfl,hn⟩
 ·have hm0:m=0:=by
   rcases Nat.eq_zero_or_pos m with h | h
   ·exact h
   ·have:=Nat.mul_pos h h0
    simp at hm
    omega
  subst hm0
  have hr:(Builtin.append_ #[ts,ts] o.type #[.slice (some ⟨g,0,none⟩) len cap,.slice A 0 c]).run P w=.ok (.slice (some ⟨g,0,none⟩) len cap) w:=by
   have hfc:(Builtin.firstCells inf.size 0 (.slice A 0 c)).run P w=.ok #[] w:=by
    cases A with
    | none=>simp [Builtin.firstCells,Sem.run_pure]
    | some a=>simpa using run_firstCells_some (P:=P) w inf.size 0 a 0 c [] (by simp) (λj u hj=>by cases hj)
   have hst:∀ a:Addr,(storeCells a []).run P w=.ok () w:=λa=>by simp [storeCells,Sem.run_pure]
   simp [Builtin.append_,run_underlying ht,sizeOf,typeInfo,hinf,hle,Builtin.lenOf,hfc,hst]
  refine step _ w hr ?_
  have hset:L.set i (g,e,(old++[]++sp).toArray)=L:=by
   rw [List.append_nil]
   refine List.ext_getElem? λj=>?_
   rw [List.getElem?_set]
   by_cases e':i=j
   ·subst e'
    rw [if_pos rfl,if_pos (List.getElem?_eq_some_iff.1 hL).1,hL]
   ·rw [if_neg e']
  refine hK _ _ (h g cap sp (by simpa using hsp) (by omega) hmax _ _ (ha.put k3 _) ?_)
  rw [hset]
  exact hw
 ·have hown:w.ownsRow 0 e sz (.slice (some ⟨g,0,none⟩) len cap) len old:=⟨hlen,.inr ⟨g,cap,_,rfl,Nat.zero_le _,hb,hle,hmax,by rw [List.size_toArray,List.length_append]; omega,by show (old++sp).take _=old; rw [List.take_left' hlen]⟩⟩
  have last:∀ (w':World) (g' cap':Nat) (cur:Array Value),cur.size=cap'*sz→len+m≤cap'→cap'≤maxLen→cur.toList.take ((len+m)*sz)=old++news→St w0 w' (L.set i (g',e,cur))→K (a.put o.dst (.slice (some ⟨g',0,none⟩) (len+m) cap')) w':=λw' g' cap' cur h2 h2' h3 h4 h5=>by
   have hc:cur=(old++news++cur.toList.drop ((len+m)*sz)).toArray:=by
    rw [← h4,List.take_append_drop]
   rw [hc] at h5
   refine hK _ _ (h g' cap' _ ?_ h2' h3 _ _ (ha.put k3 _) h5)
   have h6:=Nat.mul_le_mul_right sz h2'
   rw [List.length_drop,Array.length_toList,h2]
   omega
  rcases Nat.lt_or_ge cap (len+m) with hlt | hge
  ·obtain ⟨v',w',hr,hrow,hgr⟩:=run_append_arg_grows (P:=P) w ts o.type e inf z sz by_ ht hinf hz hs1 hb1 hzs h0 ⟨g,0,none⟩ len cap old hlen (hown.cells (g:=g) rfl) ad m c news hm hn hlt h63 hsmall
   refine step v' w' hr ?_
   rcases hrow.2 with ⟨rfl,h0'⟩ | ⟨g',cap',cur,rfl,q1,q2,q3,q4,q5,q6⟩
   ·omega
   ·exact last w' g' cap' cur q5 q3 q4 q6 (hw.setNew (⟨hgr.os,hgr.tape,hgr.output,hgr.size,λk hk=>hgr.block k hk (by simp)⟩) (List.getElem?_eq_some_iff.1 hL).1 q1 q2)
  ·obtain ⟨w',hr,hrow,hgr⟩:=run_append_own_spare (P:=P) w 0 ts o.type e inf sz ht hinf hs1 g len cap old hown ad m c news hm hn h1 hge
   refine step _ w' hr ?_
   rcases hrow.2 with ⟨h0',_⟩ | ⟨g',cap',cur,hv,_,q2,q3,q4,q5,q6⟩
   ·cases h0'
   ·cases hv
    exact last w' g cap cur q5 q3 q4 q6 (hw.set hL hgr q2)
theorem appendGNil (hg:good ops n F o=true) (ts e:TypeId) (inf:TypeInfo) (z:Value) (sz by_:Nat) (ht:P.underlying ts=some (.slice e)) (hinf:P.info? e=some inf) (hz:inf.zero=some z) (hs1:inf.size=sz) (hb1:inf.bytes=by_) (hzs:z.cells.size=sz) (h0:0<sz)
  (s x:Operand) (ho:o.op=.call { callee:=.builtin .append,args:=#[s,x],argTypes:=#[ts,ts] }) (hs:evF F s=.slice none 0 0)
  (A:Option Addr) (m c:Nat) (news:List Value) (hx:evF F x=.slice A m c) (hf:From w0 L A news) (hm:news.length=m*sz) (hm0:0<m) (h1:∀ u∈news,u.oneCell'=true) (hsmall:m*by_≤140737488355328) (h63:m≤maxLen)
  (h:∀ (g' cap':Nat) (sp':List Value),sp'.length+m*sz=cap'*sz→m≤cap'→cap'≤maxLen→wpS P w0 n ops Q (putF F o.dst (.slice (some ⟨g',0,none⟩) m cap')) (L++[(g',e,(news++sp').toArray)]) l):wpS P w0 n ops Q F L (o::l):=λa w ha hw=>by
 obtain ⟨k1,_,k3,_⟩:=good_spec hg
 refine wpList_step λK hK=>?_
 rw [if_pos (ha.wanted k1)]
 rcases hf w hw with rfl | ⟨ad,rfl,hn⟩
 ·have:=Nat.mul_pos hm0 h0
  simp at hm
  omega
 obtain ⟨v',w',hr,hrow,hgr,hnil⟩:=run_append_own (P:=P) w w.heap.size ts o.type e inf z sz by_ ht hinf hz hs1 hb1 hzs h0 (.slice none 0 0) 0 [] (World.ownsRow_nil w _ e sz) ad m c news hm hn h1 (by omega) (by rw [Nat.zero_add]; exact hsmall) (Nat.le_refl _)
 rcases hrow.2 with ⟨_,h0'⟩ | ⟨g',cap',cur,rfl,q1,q2,q3,q4,q5,q6⟩
 ·omega
 have q6':cur.toList.take (m*sz)=news:=by simpa using q6
 unfold Oper.wp
 rw [good_exec hg ha]
 unfold execOp
 simp only [ho,resolve,invoke,builtin,Sem.run_bind,Sem.run_pure,Result.andThen_ok,List.map_toArray,List.map_cons,List.map_nil,hs,hx,hr]
 have hc:cur=(news++cur.toList.drop (m*sz)).toArray:=by rw [← q6',List.take_append_drop]
 rw [hc] at q2
 rw [Nat.zero_add] at q3 ⊢
 refine hK _ _ (h g' cap' _ ?_ q3 q4 _ _ (ha.put k3 _) (hw.add (⟨hgr.os,hgr.tape,hgr.output,hgr.size,λk hk=>hgr.block k hk (by simp [Value.ownBlock])⟩) q1 q2))
 have h6:=Nat.mul_le_mul_right sz q3
 rw [List.length_drop,Array.length_toList,q5]
 omega
theorem permC {c:Code} {M:Blocks} (p:L.Perm M) (h:wpC P w0 n Q F M c):wpC P w0 n Q F L c:=λa w ha hw=>h a w ha (hw.perm p)
theorem permS {M:Blocks} (p:L.Perm M) (h:wpS P w0 n ops Q F M l):wpS P w0 n ops Q F L l:=λa w ha hw=>h a w ha (hw.perm p)
end
end Sy
end
section
namespace Ec
variable {n:Nat} [NeZero n]
variable {inv:Fin n→Fin n}
abbrev Pt (n:Nat):=Option (Fin n×Fin n)
end Ec
end
section
namespace Ec
variable {n:Nat} [NeZero n] {inv:Fin n→Fin n}
end Ec
end
section
section
open Go.RowKit Go.Lib
namespace M64
theorem maskN (a:Nat) (ha:a<18446744073709551616):bits .and .u64 (a:Int) 4294967295=((a%4294967296:Nat):Int):=by
 have h:=bits_and_u64_nat a 4294967295 ha (by omega)
 have e:a &&& 4294967295=a%4294967296:=Nat.and_two_pow_sub_one_eq_mod a 32
 rw [e] at h
 exact h
theorem divN (a:Nat):(a:Int) / 4294967296=((a / 4294967296:Nat):Int):=by omega
theorem mulN (a b:Nat):(a:Int)*(b:Int)=((a*b:Nat):Int):=(Int.natCast_mul a b).symm
theorem addN (a b:Nat):(a:Int)+(b:Int)=((a+b:Nat):Int):=(Int.natCast_add a b).symm
theorem wrapN (a:Nat) (ha:a<18446744073709551616):IntKind.u64.wrap (a:Int)=(a:Int):=by rw [IntKind.wrap_u64]; omega
theorem wrapM (a:Nat):IntKind.u64.wrap (a:Int)=((a%18446744073709551616:Nat):Int):=by rw [IntKind.wrap_u64]; omega
end M64
set_option maxHeartbeats 1000000 in
theorem mul64_any (w:World) (x y:Nat) (hx:x<18446744073709551616) (hy:y<18446744073709551616) :
  Calls Tryz.prog 297 #[.int .u64 x,.int .u64 y] w λe w'=>e=.returned (.tuple #[.int .u64 ((x*y / 18446744073709551616:Nat):Int),.int .u64 ((x*y%18446744073709551616:Nat):Int)])∧w'=w:=by
 obtain ⟨bd,bt,bw,hhi⟩:=Lib.mul64_hi x y hx hy
 have ba:=Lib.half_mul_le (a:=x / 4294967296) (b:=y / 4294967296) (by omega) (by omega)
 have bb:=Lib.half_mul_le (a:=x / 4294967296) (b:=y%4294967296) (by omega) (by omega)
 have bc:=Lib.half_mul_le (a:=x%4294967296) (b:=y / 4294967296) (by omega) (by omega)
 have ba':x / 4294967296*(y / 4294967296)<18446744073709551616:=by omega
 have bb':x / 4294967296*(y%4294967296)<18446744073709551616:=by omega
 have bc':x%4294967296*(y / 4294967296)<18446744073709551616:=by omega
 have bh1:x / 4294967296*(y / 4294967296)+(x / 4294967296*(y%4294967296)+x%4294967296*(y%4294967296) / 4294967296) / 4294967296<18446744073709551616:=by omega
 have bh:x / 4294967296*(y / 4294967296)+(x / 4294967296*(y%4294967296)+x%4294967296*(y%4294967296) / 4294967296) / 4294967296+((x / 4294967296*(y%4294967296)+x%4294967296*(y%4294967296) / 4294967296)%4294967296+x%4294967296*(y / 4294967296)) / 4294967296<18446744073709551616:=by omega
 go_enter Tryz.func297,Tryz.ntmps297
 go_wp2
 simp only [M64.maskN x hx,M64.maskN y hy,M64.divN,M64.mulN,M64.addN,M64.wrapN _ bd,M64.wrapN _ bb',M64.wrapN _ bt,M64.maskN _ bt,M64.wrapN _ bc',M64.wrapN _ bw,M64.wrapN _ ba',M64.wrapN _ bh1,M64.wrapN _ bh,M64.wrapM (x*y)]
 rw [hhi]
 exact bodyPost_ret (v:=.tuple #[_,_]) (by simp [results,Tryz.results297,go_sem]) rfl ⟨rfl,rfl⟩
theorem mul64_at (w:World) (x y hi lo:Nat) (hx:x<18446744073709551616) (hy:y<18446744073709551616) (hlo:lo<18446744073709551616) (he:lo+18446744073709551616*hi=x*y) :
  Calls Tryz.prog 297 #[.int .u64 x,.int .u64 y] w λe w'=>e=.returned (.tuple #[.int .u64 (hi:Int),.int .u64 (lo:Int)])∧w'=w:=by
 have e1:x*y / 18446744073709551616=hi:=by omega
 have e2:x*y%18446744073709551616=lo:=by omega
 have h:=mul64_any w x y hx hy
 rw [e1,e2] at h
 exact h
theorem mul_ex (x y:Nat) (hx:x<18446744073709551616) (hy:y<18446744073709551616):∃ hi lo:Nat,lo<18446744073709551616∧hi+2≤18446744073709551616∧lo+18446744073709551616*hi=x*y:=by
 have h:x*y≤18446744073709551615*18446744073709551615:=Nat.mul_le_mul (by omega) (by omega)
 exact ⟨x*y / 18446744073709551616,x*y%18446744073709551616,by omega,by omega,by omega⟩
set_option maxHeartbeats 1000000 in
theorem times_at {v:Value} (w:World) (x m s t:Nat) (h1:fv x=v) (hx:x<(2^256)) (hm:m<18446744073709551616) (hs:s<(2^256)) (he:s+(2^256)*t=x*m) :
  Calls Tryz.prog 296 #[v,.int .u64 (m:Int)] w λe w'=>e=.returned (.tuple #[fv s,.int .u64 (t:Int)])∧Below w.heap.size w w':=by
 subst h1
 obtain ⟨x0,x1,x2,x3,a0,a1,a2,a3,ex,fx⟩:=words_of x hx
 obtain ⟨p0,q0,b0,c0,e0⟩:=mul_ex x0 m a0 hm
 obtain ⟨p1,q1,b1,c1,e1⟩:=mul_ex x1 m a1 hm
 obtain ⟨p2,q2,b2,c2,e2⟩:=mul_ex x2 m a2 hm
 obtain ⟨p3,q3,b3,c3,e3⟩:=mul_ex x3 m a3 hm
 have em:x*m=x0*m+18446744073709551616*(x1*m)+340282366920938463463374607431768211456*(x2*m)+6277101735386680763835789423207666416102355444464034512896*(x3*m):=by rw [ex,row_mul]
 have fl:=fv_mk q0 q1 q2 q3 b0 b1 b2 b3
 have fh:=fv_mk 0 p0 p1 p2 (by omega) (by omega) (by omega) (by omega)
 obtain ⟨L,hL⟩:∃ L,L=q0+18446744073709551616*q1+340282366920938463463374607431768211456*q2+6277101735386680763835789423207666416102355444464034512896*q3:=⟨_,rfl⟩
 obtain ⟨H,hH⟩:∃ H,H=0+18446744073709551616*p0+340282366920938463463374607431768211456*p1+6277101735386680763835789423207666416102355444464034512896*p2:=⟨_,rfl⟩
 obtain ⟨k,hk⟩:∃ k,L+H=s+(2^256)*k∧t=p3+k:=by
  refine ⟨t - p3,?_,?_⟩ <;> omega
 have hLt:L<(2^256):=by omega
 have hHt:H<(2^256):=by omega
 have hp:=λw=>plus_at w L H s k rfl rfl hLt hHt hs hk.1.symm
 rw [← hL] at fl
 rw [← hH] at fh
 have m0:=λw=>mul64_at w x0 m p0 q0 a0 hm b0 e0
 have m1:=λw=>mul64_at w x1 m p1 q1 a1 hm b1 e1
 have m2:=λw=>mul64_at w x2 m p2 q2 a2 hm b2 e2
 have m3:=λw=>mul64_at w x3 m p3 q3 a3 hm b3 e3
 have hadd:(p3:Int)+(k:Int)=(t:Int):=by omega
 have ht:t<18446744073709551616:=by omega
 have hp:=λw=>plus_at w L H s k fl.symm fh.symm hLt hHt hs hk.1.symm
 rw [fx]
 clear ex fx a0 a1 a2 a3 b0 b1 b2 b3 c0 c1 c2 c3 e0 e1 e2 e3 em fl fh hL hH hk hLt hHt he hs hx hm
 go_enter Tryz.func296,Tryz.ntmps296
 go_wp2_with fail
 refine (m0 _).mono ?_
 rintro e w1 ⟨rfl,rfl⟩
 go_wp2_with fail
 refine (m1 _).mono ?_
 rintro e w1 ⟨rfl,rfl⟩
 go_wp2_with fail
 refine (m2 _).mono ?_
 rintro e w1 ⟨rfl,rfl⟩
 go_wp2_with fail
 refine (m3 _).mono ?_
 rintro e w1 ⟨rfl,rfl⟩
 go_wp2_with fail
 refine (hp _).mono ?_
 rintro e w1 ⟨rfl,hb⟩
 have hR:Blk w1 (w.heap.size+1) 414 _:=Gr.blk hb (blk_new2 w _ _ _)
 have hB:Below w.heap.size w w1:=Below.gr (below_alloc2 w _ _) hb
 go_wp2_with (first | ((with_reducible refine here_store ?_); refine wpList_store_blk rfl _ _ _ rfl (w.heap.size+1) (fcs (s)) rfl rfl _ _ (hR) (by kernel_rfl) (by rfl) (fcs_one _) ?_; intro w2 hL2 hB2 hK2) | ((with_reducible refine here_load (d:=some 56) ?_); refine wpList_load_fv rfl _ _ rfl (w.heap.size+1) rfl (s) _ _ _ (hL2) (fv_fcs s) Tryz.underlying414 rfl (by kernel_rfl) ?_) | ((with_reducible refine here_store ?_); refine wpList_store_blk rfl _ _ _ rfl (w.heap.size+1) (fcs (s)) rfl rfl _ _ (hL2) (by kernel_rfl) (by rfl) (fcs_one _) ?_; intro w3 hL3 hB3 hK3))
 exact bodyPost_ret (res_cell_tmp rfl _ _ (w.heap.size+1) _ _ _ _ rfl hL3 rfl Tryz.underlying414 rfl (by kernel_rfl)) rfl ⟨rfl,hB.trans ((hB2 _ (by omega)).trans (hB3 _ (by omega)))⟩
end
end
section
section
open Go.RowKit Go.Lib
theorem fcs_words {n:Nat} {a b c d:Int} (h:fv n=.agg #[.int .u64 a,.int .u64 b,.int .u64 c,.int .u64 d]):fcs n=#[.int .u64 a,.int .u64 b,.int .u64 c,.int .u64 d]:=by
 rw [fv_fcs] at h
 injection h
set_option maxHeartbeats 1000000 in
set_option maxRecDepth 100000 in
theorem row_at {v1 v3:Value} (w:World) (x m c lo hi:Nat) (h1:fv x=v1) (h3:fv c=v3) (hx:x<(2^256)) (hm:m<18446744073709551616) (hc:c<(2^256)) (hlo:lo<18446744073709551616) (he:lo+18446744073709551616*hi=x*m+c) :
  Calls Tryz.prog 315 #[v1,.int .u64 (m:Int),v3] w λe w'=>e=.returned (.tuple #[.int .u64 (lo:Int),fv hi])∧Below w.heap.size w w':=by
 subst h1 h3
 obtain ⟨x0,x1,x2,x3,fx⟩:=words_fv x hx
 obtain ⟨c0,c1,c2,c3,fc⟩:=words_fv c hc
 obtain ⟨s,t,hs,hst,ht⟩:∃ s t:Nat,s<(2^256)∧s+(2^256)*t=x*m∧t+1<18446744073709551616:=by
  have h:x*m≤115792089237316195423570985008687907853269984665640564039457584007913129639935*18446744073709551615:=Nat.mul_le_mul (by omega) (by omega)
  exact ⟨x*m%(2^256),x*m / (2^256),by omega,by omega,by omega⟩
 obtain ⟨u,k,hu,hk,huk⟩:∃ u k:Nat,u<(2^256)∧k≤1∧u+(2^256)*k=s+c:=⟨(s+c)%(2^256),(s+c) / (2^256),by omega,by omega,by omega⟩
 obtain ⟨u0,u1,u2,u3,d0,d1,d2,d3,eu,fu⟩:=words_of u hu
 obtain ⟨t1,ht1⟩:∃ t1,t1=t+k:=⟨_,rfl⟩
 obtain rfl:u0=lo:=by omega
 have hhi:u1+18446744073709551616*u2+340282366920938463463374607431768211456*u3+6277101735386680763835789423207666416102355444464034512896*t1=hi:=by omega
 have fh:=fv_mk u1 u2 u3 t1 d1 d2 d3 (by omega)
 rw [hhi] at fh
 have ct:=λw=>times_at (v:=fv x) w x m s t rfl hx hm hs hst
 have cp:=λw=>plus_at (v1:=fv s) (v2:=fv c) w s c u k rfl rfl hs hc hu huk
 have hadd:(t:Int)+(k:Int)=(t1:Int):=by omega
 have ht1':t1<18446744073709551616:=by omega
 have FX:=Lib.hid fx
 have FC:=Lib.hid fc
 have FU:=Lib.hid fu
 have FH:=Lib.hid fh
 have ct':∀ w,Calls Tryz.prog 296 #[.agg #[.int .u64 x0,.int .u64 x1,.int .u64 x2,.int .u64 x3],.int .u64 (m:Int)] w λe w'=>e=.returned (.tuple #[fv s,.int .u64 (t:Int)])∧Below w.heap.size w w':=by
  intro w; rw [← fx]; exact ct w
 rw [fx,fc]
 clear fx fc fu fh hx hc hm hs hst ht hu hk huk d0 d1 d2 d3 eu ht1 hhi he ct hlo
 go_enter Tryz.func315,Tryz.ntmps315
 go_wp2_with fail
 refine (ct' _).mono ?_
 rintro e w1 ⟨rfl,hb⟩
 have BC:Blk w1 (w.heap.size+1) 414 _:=Gr.blk hb (Blk.alloc (blk_new2 w _ _ _) _)
 have BR:Blk w1 (w.heap.size+2) 414 _:=Gr.blk hb (blk_new3 w _ _ _ _)
 have hB:Below w.heap.size w w1:=Below.gr (below_alloc3 w _ _ _) hb
 have hsz:w.heap.size+3≤w1.heap.size:=by have:=hb.size; simp at this; omega
 clear hb ct'
 go_wp2_with (first | ((with_reducible refine here_store ?_); refine wpList_store_blk rfl _ _ _ rfl (w1.heap.size) (fcs (s)) rfl rfl _ _ (Blk.new w1 _ _) (by kernel_rfl) (by rfl) (fcs_one _) ?_; intro w2 hL2 hB2 hK2; have BR':=hK2 _ (by omega) _ _ (BR.alloc _); have BC':=hK2 _ (by omega) _ _ (BC.alloc _)) | ((with_reducible refine here_load (d:=some 18) ?_); refine wpList_load_fv rfl _ _ rfl (w1.heap.size) rfl (s) _ _ _ (hL2) (fv_fcs s) Tryz.underlying414 rfl (by kernel_rfl) ?_) | ((with_reducible refine here_load (d:=some 19) ?_); refine wpList_load_fv rfl _ _ rfl (w.heap.size+1) rfl (c) _ _ _ (BC') (FC.out) Tryz.underlying414 rfl (by kernel_rfl) ?_))
 have BR2:=BR'
 have BC2:=BC'
 refine (cp _).mono ?_
 rintro e w3 ⟨rfl,hb⟩
 have BR3:Blk w3 (w.heap.size+2) 414 _:=Gr.blk hb BR2
 have BT3:Blk w3 w1.heap.size 414 _:=Gr.blk hb hL2
 have hB3:Below w.heap.size w w3:=Below.gr ((hB.alloc (by omega) _).trans (hB2 _ (by omega))) hb
 clear hb cp
 go_wp2_with (first | ((with_reducible refine here_store ?_); refine wpList_store_blk rfl _ _ _ rfl (w1.heap.size) (fcs (u)) rfl rfl _ _ (BT3) (by kernel_rfl) (by rfl) (fcs_one _) ?_; intro w5 hL5 hB5 hK5; have BR5:=hK5 _ (by omega) _ _ BR3))
 have BT5:Blk w5 w1.heap.size 414 _:=hL5.eq_ (fcs_words FU.out)
 have lT:=BT5.lt
 have q0:w5.cell? ⟨w1.heap.size,0,none⟩=some (.int .u64 (u0:Int)):=BT5.cell 0
 have q1:w5.cell? ⟨w1.heap.size,1,none⟩=some (.int .u64 (u1:Int)):=BT5.cell 1
 have q2:w5.cell? ⟨w1.heap.size,2,none⟩=some (.int .u64 (u2:Int)):=BT5.cell 2
 have q3:w5.cell? ⟨w1.heap.size,3,none⟩=some (.int .u64 (u3:Int)):=BT5.cell 3
 have hw1:=M64.wrapN t1 ht1'
 refine wp_region_G (λj=>j == 13) (by kernel_rfl) ?_
 try simp only [Act.put]
 refine tk 0 rfl ?_
 try simp only [Act.put,aA,aZ,aS]
 refine tkw 1 rfl (YieldsG.pure (v:=.int .u64 (u0:Int)) (by rfl) (λw9 h9=>by have hz:=(Below.cell (p:=⟨w1.heap.size,0,none⟩) h9 lT).trans q0; go_simp; first | done | simp [hz])) ?_
 try simp only [Act.put,aA,aZ,aS]
 refine tk 2 rfl ?_
 try simp only [Act.put,aA,aZ,aS]
 refine tkw 3 rfl (YieldsG.pure (v:=.int .u64 (u1:Int)) (by rfl) (λw9 h9=>by have hz:=(Below.cell (p:=⟨w1.heap.size,1,none⟩) h9 lT).trans q1; go_simp; first | done | simp [hz])) ?_
 try simp only [Act.put,aA,aZ,aS]
 refine tk 4 rfl ?_
 try simp only [Act.put,aA,aZ,aS]
 refine tkw 5 rfl (YieldsG.pure (v:=.int .u64 (u2:Int)) (by rfl) (λw9 h9=>by have hz:=(Below.cell (p:=⟨w1.heap.size,2,none⟩) h9 lT).trans q2; go_simp; first | done | simp [hz])) ?_
 try simp only [Act.put,aA,aZ,aS]
 refine tk 6 rfl ?_
 try simp only [Act.put,aA,aZ,aS]
 refine tkw 7 rfl (YieldsG.pure (v:=.int .u64 (u3:Int)) (by rfl) (λw9 h9=>by have hz:=(Below.cell (p:=⟨w1.heap.size,3,none⟩) h9 lT).trans q3; go_simp; first | done | simp [hz])) ?_
 try simp only [Act.put,aA,aZ,aS]
 refine tk 8 rfl ?_
 try simp only [Act.put,aA,aZ,aS]
 refine tk 9 rfl ?_
 try simp only [Act.put,aA,aZ,aS]
 refine tkw 10 rfl (YieldsG.pure (v:=.int .u64 (t1:Int)) (by rfl) (λw9 h9=>by go_simp; first | done | simp [hw1])) ?_
 try simp only [Act.put,aA,aZ,aS]
 refine tk 11 rfl ?_
 try simp only [Act.put,aA,aZ,aS]
 refine tk 12 rfl ?_
 try simp only [Act.put,aA,aZ,aS]
 refine wpAnyG_store 13 rfl (by kernel_rfl) (by rfl) _ _ _ rfl (w.heap.size+2) (#[.int .u64 u1,.int .u64 u2,.int .u64 u3,.int .u64 t1]) rfl rfl _ _ (BR5) (by kernel_rfl) (by rfl) (by simp [Value.oneCell']) rfl (λw6 h6 w7 hB7 hL7=>?_)
 try simp only [Act.put]
 refine wpAnyG_done (by kernel_rfl) (λw8 h8=>?_)
 have hfin:=Gr.blk h8 hL7
 have hb9:=(hB3.trans (hB5 _ (by omega))).trans ((Below.mono h6 (by have:=hB3.size; have:=(hB5 0 (by omega)).size; omega)).trans ((hB7 _ (by omega)).trans (Below.mono h8 (by have:=hL7.lt; omega))))
 go_wp2
 exact bodyPost_ret (res_tmp_cell rfl _ _ (w.heap.size+2) _ _ _ _ rfl hfin rfl Tryz.underlying414 rfl (by kernel_rfl)) rfl ⟨by rw [FH.out]; rfl,hb9⟩
end
end
section
section
open Go.RowKit Go.Lib
def twice (w:World) (g h:Nat) (a b c d p q r s:Value):World:=((((((((w.setCell ⟨g,0,none⟩ a).setCell ⟨g,1,none⟩ b).setCell ⟨g,2,none⟩ c).setCell ⟨g,3,none⟩ d).setCell ⟨h,0,none⟩ p).setCell ⟨h,1,none⟩ q).setCell ⟨h,2,none⟩ r).setCell ⟨h,3,none⟩ s).drew
theorem two_far {w:World} {g h:Nat} {t t':TypeId} {a b c d p q r s:Value} (k:Blk w g t #[a,b,c,d]) (_:Blk w h t' #[p,q,r,s]) (n:g≠h):Blk (twice w g h a b c d p q r s) g t #[a,b,c,d] :=
 ((((((((k.set_ 0 a).set_ 1 b).set_ 2 c).set_ 3 d).far n p).far n q).far n r).far n s).drew
theorem two_near {w:World} {g h:Nat} {t t':TypeId} {a b c d p q r s:Value} (_:Blk w g t #[a,b,c,d]) (k:Blk w h t' #[p,q,r,s]) (n:g≠h):Blk (twice w g h a b c d p q r s) h t' #[p,q,r,s] :=
 ((((((((k.far (Ne.symm n) a).far (Ne.symm n) b).far (Ne.symm n) c).far (Ne.symm n) d).set_ 0 p).set_ 1 q).set_ 2 r).set_ 3 s).drew
theorem two_below {B:Nat} {v w:World} {g h:Nat} {a b c d p q r s:Value} (k:Below B v w) (hg:B≤g) (hh:B≤h):Below B v (twice w g h a b c d p q r s) :=
 ((((((((k.setCell hg a).setCell hg b).setCell hg c).setCell hg d).setCell hh p).setCell hh q).setCell hh r).setCell hh s).drew
theorem row_ex (x m c:Nat) (hx:x<(2^256)) (hm:m<18446744073709551616) (hc:c<(2^256)):∃ lo hi:Nat,lo<18446744073709551616∧hi<(2^256)∧lo+18446744073709551616*hi=x*m+c:=by
 have h:x*m≤115792089237316195423570985008687907853269984665640564039457584007913129639935*18446744073709551615:=Nat.mul_le_mul (by omega) (by omega)
 exact ⟨(x*m+c)%18446744073709551616,(x*m+c) / 18446744073709551616,by omega,by omega,by omega⟩
set_option maxHeartbeats 2000000 in
set_option maxRecDepth 100000 in
theorem product_at {v1 v2:Value} (w:World) (x y lo hi:Nat) (h1:fv x=v1) (h2:fv y=v2) (hx:x<(2^256)) (hy:y<(2^256)) (hlo:lo<(2^256)) (he:lo+(2^256)*hi=x*y) :
  Calls Tryz.prog 295 #[v1,v2] w λe w'=>e=.returned (.tuple #[fv lo,fv hi])∧Below w.heap.size w w':=by
 subst h1 h2
 obtain ⟨x0,x1,x2,x3,fx⟩:=words_fv x hx
 obtain ⟨y0,y1,y2,y3,b0,b1,b2,b3,ey,fy⟩:=words_of y hy
 obtain ⟨l0,g1,m0,n1,e0⟩:=row_ex x y0 0 hx b0 (by omega)
 obtain ⟨l1,g2,m1,n2,e1⟩:=row_ex x y1 g1 hx b1 n1
 obtain ⟨l2,g3,m2,n3,e2⟩:=row_ex x y2 g2 hx b2 n2
 obtain ⟨l3,g4,m3,n4,e3⟩:=row_ex x y3 g3 hx b3 n3
 have em:x*y=x*y0+18446744073709551616*(x*y1)+340282366920938463463374607431768211456*(x*y2)+6277101735386680763835789423207666416102355444464034512896*(x*y3):=by rw [ey,col_mul]
 have hL:l0+18446744073709551616*l1+340282366920938463463374607431768211456*l2+6277101735386680763835789423207666416102355444464034512896*l3=lo:=by omega
 obtain rfl:g4=hi:=by omega
 have fl:=fv_mk l0 l1 l2 l3 m0 m1 m2 m3
 rw [hL] at fl
 obtain ⟨z0,z1,z2,z3,fg⟩:=words_fv g4 n4
 have FG:=Lib.hid fg
 clear fg
 have FX:=Lib.hid fx
 have FL:=Lib.hid fl
 have r0:=λw=>row_at w x y0 0 l0 g1 fx rfl hx b0 (by omega) m0 e0
 have r1:=λw=>row_at (v1:=fv x) (v3:=fv g1) w x y1 g1 l1 g2 rfl rfl hx b1 n1 m1 e1
 have r2:=λw=>row_at (v1:=fv x) (v3:=fv g2) w x y2 g2 l2 g3 rfl rfl hx b2 n2 m2 e2
 have r3:=λw=>row_at (v1:=fv x) (v3:=fv g3) w x y3 g3 l3 g4 rfl rfl hx b3 n3 m3 e3
 rw [fv_0] at r0
 rw [fx,fy]
 clear fx fy fl hx hy hlo he b0 b1 b2 b3 ey m0 m1 m2 m3 n1 n2 n3 n4 e0 e1 e2 e3 em hL
 go_enter Tryz.func295,Tryz.ntmps295
 go_wp2_with fail
 refine (r0 _).mono ?_
 rintro e w1 ⟨rfl,hb⟩
 have BX:Blk w1 w.heap.size 414 _:=Gr.blk hb (Blk.alloc (Blk.alloc (Blk.alloc (Blk.new w _ _) _) _) _)
 have BY:Blk w1 (w.heap.size+1) 414 _:=Gr.blk hb (Blk.alloc (Blk.alloc (blk_new2 w _ _ _) _) _)
 have BL:Blk w1 (w.heap.size+2) 414 #[.int .u64 0,.int .u64 0,.int .u64 0,.int .u64 0]:=Gr.blk hb (Blk.alloc (blk_new3 w _ _ _ _) _)
 have BG:Blk w1 (w.heap.size+3) 414 _:=Gr.blk hb (blk_new4 w _ _ _ _ _)
 have hB:Below w.heap.size w w1:=Below.gr ((below_alloc3 w _ _ _).alloc (by simp <;> omega) _) hb
 clear hb r0
 have hlc:=BL.cell 0
 have hlf:=BL.frozen 0
 simp only [List.getElem?_toArray,List.getElem?_cons_zero] at hlc
 go_wp2_with (first | ((with_reducible refine here_store ?_); refine wpList_store_blk rfl _ _ _ rfl (w.heap.size+3) (fcs (g1)) rfl rfl _ _ (BG.far (by simp <;> omega) _) (by kernel_rfl) (by rfl) (fcs_one _) ?_; intro w2 hG0 hB0 hK0; have BX':=hK0 _ (by omega) _ _ (BX.far (by simp <;> omega) _); have BY':=hK0 _ (by omega) _ _ (BY.far (by simp <;> omega) _); have BL':Blk w2 (w.heap.size+2) 414 #[.int .u64 (l0:Int),.int .u64 0,.int .u64 0,.int .u64 0]:=hK0 _ (by omega) _ _ (BL.set_ 0 _); have hyc:w2.cell? ⟨w.heap.size+1,1,none⟩=some (.int .u64 (y1:Int)):=BY'.cell 1) | ((with_reducible refine here_load (d:=some 16) ?_); refine wpList_load_fv rfl _ _ rfl (w.heap.size) rfl (x) _ _ _ (BX') (FX.out) Tryz.underlying414 rfl (by kernel_rfl) ?_) | ((with_reducible refine here_load (d:=some 19) ?_); refine wpList_load_fv rfl _ _ rfl (w.heap.size+3) rfl (g1) _ _ _ (hG0) (fv_fcs g1) Tryz.underlying414 rfl (by kernel_rfl) ?_))
 refine (r1 _).mono ?_
 rintro e w3 ⟨rfl,hb⟩
 have hBn:Below w.heap.size w w3:=Below.gr ((hB.setCell (by show w.heap.size≤w.heap.size+1+1; omega) _).trans (hB0 _ (by omega))) hb
 have BXn:=Gr.blk hb BX'
 have BYn:=Gr.blk hb BY'
 have BLn:=Gr.blk hb BL'
 have BGn:=Gr.blk hb hG0
 clear hb r1 hlc hlf hyc BX BY BL BG hB BX' BY' BL' hG0 hB0 hK0
 have BX:=BXn
 have BY:=BYn
 have BL:=BLn
 have BG:=BGn
 have hB:=hBn
 clear BXn BYn BLn BGn hBn
 have hlc:=BL.cell 1
 have hlf:=BL.frozen 1
 simp only [List.getElem?_toArray,List.getElem?_cons_zero,List.getElem?_cons_succ] at hlc
 go_wp2_with (first | ((with_reducible refine here_store ?_); refine wpList_store_blk rfl _ _ _ rfl (w.heap.size+3) (fcs (g2)) rfl rfl _ _ (BG.far (by simp <;> omega) _) (by kernel_rfl) (by rfl) (fcs_one _) ?_; intro w4 hG1 hB1 hK1; have BX':=hK1 _ (by omega) _ _ (BX.far (by simp <;> omega) _); have BY':=hK1 _ (by omega) _ _ (BY.far (by simp <;> omega) _); have BL':Blk w4 (w.heap.size+2) 414 #[.int .u64 (l0:Int),.int .u64 (l1:Int),.int .u64 0,.int .u64 0]:=hK1 _ (by omega) _ _ (BL.set_ 1 _); have hyc:w4.cell? ⟨w.heap.size+1,2,none⟩=some (.int .u64 (y2:Int)):=BY'.cell 2) | ((with_reducible refine here_load (d:=some 25) ?_); refine wpList_load_fv rfl _ _ rfl (w.heap.size) rfl (x) _ _ _ (BX') (FX.out) Tryz.underlying414 rfl (by kernel_rfl) ?_) | ((with_reducible refine here_load (d:=some 28) ?_); refine wpList_load_fv rfl _ _ rfl (w.heap.size+3) rfl (g2) _ _ _ (hG1) (fv_fcs g2) Tryz.underlying414 rfl (by kernel_rfl) ?_))
 refine (r2 _).mono ?_
 rintro e w5 ⟨rfl,hb⟩
 have hBn:Below w.heap.size w w5:=Below.gr ((hB.setCell (by show w.heap.size≤w.heap.size+1+1; omega) _).trans (hB1 _ (by omega))) hb
 have BXn:=Gr.blk hb BX'
 have BYn:=Gr.blk hb BY'
 have BLn:=Gr.blk hb BL'
 have BGn:=Gr.blk hb hG1
 clear hb r2 hlc hlf hyc BX BY BL BG hB BX' BY' BL' hG1 hB1 hK1
 have BX:=BXn
 have BY:=BYn
 have BL:=BLn
 have BG:=BGn
 have hB:=hBn
 clear BXn BYn BLn BGn hBn
 have hlc:=BL.cell 2
 have hlf:=BL.frozen 2
 simp only [List.getElem?_toArray,List.getElem?_cons_zero,List.getElem?_cons_succ] at hlc
 go_wp2_with (first | ((with_reducible refine here_store ?_); refine wpList_store_blk rfl _ _ _ rfl (w.heap.size+3) (fcs (g3)) rfl rfl _ _ (BG.far (by simp <;> omega) _) (by kernel_rfl) (by rfl) (fcs_one _) ?_; intro w6 hG2 hB2 hK2; have BX':=hK2 _ (by omega) _ _ (BX.far (by simp <;> omega) _); have BY':=hK2 _ (by omega) _ _ (BY.far (by simp <;> omega) _); have BL':Blk w6 (w.heap.size+2) 414 #[.int .u64 (l0:Int),.int .u64 (l1:Int),.int .u64 (l2:Int),.int .u64 0]:=hK2 _ (by omega) _ _ (BL.set_ 2 _); have hyc:w6.cell? ⟨w.heap.size+1,3,none⟩=some (.int .u64 (y3:Int)):=BY'.cell 3) | ((with_reducible refine here_load (d:=some 34) ?_); refine wpList_load_fv rfl _ _ rfl (w.heap.size) rfl (x) _ _ _ (BX') (FX.out) Tryz.underlying414 rfl (by kernel_rfl) ?_) | ((with_reducible refine here_load (d:=some 37) ?_); refine wpList_load_fv rfl _ _ rfl (w.heap.size+3) rfl (g3) _ _ _ (hG2) (fv_fcs g3) Tryz.underlying414 rfl (by kernel_rfl) ?_))
 refine (r3 _).mono ?_
 rintro e w7 ⟨rfl,hb⟩
 have hBn:Below w.heap.size w w7:=Below.gr ((hB.setCell (by show w.heap.size≤w.heap.size+1+1; omega) _).trans (hB2 _ (by omega))) hb
 have BXn:=Gr.blk hb BX'
 have BYn:=Gr.blk hb BY'
 have BLn:=Gr.blk hb BL'
 have BGn:=Gr.blk hb hG2
 clear hb r3 hlc hlf hyc BX BY BL BG hB BX' BY' BL' hG2 hB2 hK2
 have BX:=BXn
 have BY:=BYn
 have BL:=BLn
 have BG:=BGn
 have hB:=hBn
 clear BXn BYn BLn BGn hBn
 have hlc:=BL.cell 3
 have hlf:=BL.frozen 3
 simp only [List.getElem?_toArray,List.getElem?_cons_zero,List.getElem?_cons_succ] at hlc
 go_wp2_with (first | ((with_reducible refine here_store ?_); refine wpList_store_blk rfl _ _ _ rfl (w.heap.size+3) (fcs (g4)) rfl rfl _ _ (BG.far (by simp <;> omega) _) (by kernel_rfl) (by rfl) (fcs_one _) ?_; intro w8 hG3 hB3 hK3; have BX':=hK3 _ (by omega) _ _ (BX.far (by simp <;> omega) _); have BY':=hK3 _ (by omega) _ _ (BY.far (by simp <;> omega) _); have BL':Blk w8 (w.heap.size+2) 414 #[.int .u64 (l0:Int),.int .u64 (l1:Int),.int .u64 (l2:Int),.int .u64 (l3:Int)]:=hK3 _ (by omega) _ _ (BL.set_ 3 _)))
 have hB8:Below w.heap.size w w8:=(hB.setCell (by show w.heap.size≤w.heap.size+1+1; omega) _).trans (hB3 _ (by omega))
 have BG8:Blk w8 (w.heap.size+3) 414 _:=hG3.eq_ (fcs_words FG.out)
 have q0:w8.cell? ⟨w.heap.size+1+1,0,none⟩=some (.int .u64 (l0:Int)):=BL'.cell 0
 have q1:w8.cell? ⟨w.heap.size+1+1,1,none⟩=some (.int .u64 (l1:Int)):=BL'.cell 1
 have q2:w8.cell? ⟨w.heap.size+1+1,2,none⟩=some (.int .u64 (l2:Int)):=BL'.cell 2
 have q3:w8.cell? ⟨w.heap.size+1+1,3,none⟩=some (.int .u64 (l3:Int)):=BL'.cell 3
 have p0:w8.cell? ⟨w.heap.size+1+1+1,0,none⟩=some (.int .u64 (z0:Int)):=BG8.cell 0
 have p1:w8.cell? ⟨w.heap.size+1+1+1,1,none⟩=some (.int .u64 (z1:Int)):=BG8.cell 1
 have p2:w8.cell? ⟨w.heap.size+1+1+1,2,none⟩=some (.int .u64 (z2:Int)):=BG8.cell 2
 have p3:w8.cell? ⟨w.heap.size+1+1+1,3,none⟩=some (.int .u64 (z3:Int)):=BG8.cell 3
 have fq:∀ i,w8.frozen? ⟨w.heap.size+1+1,i,none⟩=false:=λi=>BL'.frozen i
 have fp:∀ i,w8.frozen? ⟨w.heap.size+1+1+1,i,none⟩=false:=λi=>BG8.frozen i
 clear hlc hlf hK3 BX' BY' BX BY
 go_region
 all_goals
  go_wp2
  have f1:Blk _ (w.heap.size+2) 414 #[.int .u64 (l0:Int),.int .u64 (l1:Int),.int .u64 (l2:Int),.int .u64 (l3:Int)]:=two_far BL' BG8 (by omega)
  have f2:Blk _ (w.heap.size+3) 414 #[.int .u64 (z0:Int),.int .u64 (z1:Int),.int .u64 (z2:Int),.int .u64 (z3:Int)]:=two_near BL' BG8 (by omega)
  exact bodyPost_ret (res_two_cells rfl _ _ (w.heap.size+2) (w.heap.size+3) _ _ _ _ _ _ rfl f1 rfl f2 Tryz.underlying414 rfl (by kernel_rfl) Tryz.underlying414 rfl (by kernel_rfl)) rfl ⟨by rw [FL.out,FG.out],two_below hB8 (by omega) (by omega)⟩
end
end
section
section
open Go.RowKit Go.Lib
def addW (x y:Nat):Nat:=((x+y)%(2^256)+(x+y) / (2^256)*4294968273)%(2^256)+((x+y)%(2^256)+(x+y) / (2^256)*4294968273) / (2^256)*4294968273
theorem addW_lt (x y:Nat) (hx:x<(2^256)) (hy:y<(2^256)):addW x y<(2^256):=by unfold addW; omega
theorem addW_is (x y s k u j:Nat) (hs:s<(2^256)) (he:s+(2^256)*k=x+y) (hu:u<(2^256)) (hf:u+(2^256)*j=s+k*4294968273):addW x y=u+j*4294968273:=by
 have e1:(x+y)%(2^256)=s:=by omega
 have e2:(x+y) / (2^256)=k:=by omega
 unfold addW
 rw [e1,e2]
 have e3:(s+k*4294968273)%(2^256)=u:=by omega
 have e4:(s+k*4294968273) / (2^256)=j:=by omega
 rw [e3,e4]
theorem addW_mod (x y:Nat):addW x y%pM=(x+y)%pM:=by
 refine mod_of_mult (k:=(x+y) / (2^256)+((x+y)%(2^256)+(x+y) / (2^256)*4294968273) / (2^256)) ?_
 unfold addW
 omega
theorem add_def (w:World) (x y:Nat) (hx:x<(2^256)) (hy:y<(2^256)):Calls Tryz.prog 298 #[fv x,fv y] w λe w'=>e=.returned (fv (addW x y))∧Below w.heap.size w w' :=
 (add_any w x y hx hy).mono λ_ _ ⟨⟨_,s,k,u,j,hs,he,hu,hf,hz,e⟩,hb⟩=>⟨by rw [e,hz,addW_is x y s k u j hs he hu hf],hb⟩
theorem norm_any (w:World) (x:Nat) (hx:x<(2^256)):Calls Tryz.prog 266 #[fv x] w λe w'=>e=.returned (fv (x%pM))∧Below w.heap.size w w':=by
 obtain ⟨x0,x1,x2,x3,fx⟩:=words_fv x hx
 have FX:=Lib.hid fx
 have HX:=Lib.hid hx
 rw [fx]
 clear fx hx
 go_enter Tryz.func266,Tryz.ntmps266
 go_wp2_with fail
 refine (split_at x FX.out _).mono ?_
 rintro e w1 ⟨rfl,hb1⟩
 go_wp2_with fail
 refine (reduce_any _ x HX.out).mono ?_
 rintro e w2 ⟨rfl,hb2⟩
 go_wp2_with fail
 refine (number_any _ _).mono ?_
 rintro e w3 ⟨rfl,hb3⟩
 have hg:=Below.gr (Below.gr (Below.gr (w:=w) (below_alloc2 w _ _) hb1) hb2) hb3
 have hR:Blk w3 (w.heap.size+1) 71 _:=Gr.blk hb3 (Gr.blk hb2 (Gr.blk hb1 (blk_new2 w _ _ _)))
 go_wp2_with (first | ((with_reducible refine here_store ?_); refine wpList_store_blk rfl _ _ _ rfl (w.heap.size+1) (fcs (x%pM)) rfl rfl _ _ (hR) (by kernel_rfl) (by rfl) (fcs_one _) ?_; intro w4 hL hB4 hK4))
 exact bodyPost_ret (results_cell_row rfl _ _ (w.heap.size+1) _ _ (0,0) _ rfl hL Tryz.underlying71 rfl (by kernel_rfl)) rfl ⟨rfl,hg.trans (hB4 _ (by omega))⟩
theorem of_any (w:World) (n:Nat) (hn:n<18446744073709551616):Calls Tryz.prog 300 #[.int .u64 (n:Int)] w λe w'=>e=.returned (fv n)∧Below w.heap.size w w':=by
 have e:fv n=.agg #[.int .u64 (n:Int),.int .u64 0,.int .u64 0,.int .u64 0]:=by
  have h:=fv_mk n 0 0 0 hn (by omega) (by omega) (by omega)
  exact h.symm
 rw [e]
 go_enter Tryz.func300,Tryz.ntmps300
 go_wp2
 exact bodyPost_ret (results_cell_row rfl _ _ w.heap.size _ _ (0,0) _ rfl (heap_alloc_new w _) Tryz.underlying71 rfl (by kernel_rfl)) rfl ⟨rfl,(Below.refl _ _).alloc (Nat.le_refl _) _⟩
set_option maxHeartbeats 1000000 in
set_option maxRecDepth 100000 in
theorem addF_any (w:World) (x y:Nat) (hx:x<(2^256)) (hy:y<(2^256)):Calls Tryz.prog 299 #[fv x,fv y] w λe w'=>e=.returned (fv (addP x y))∧Below w.heap.size w w':=by
 obtain ⟨v,hv⟩:∃ v,v=addW x y:=⟨_,rfl⟩
 obtain ⟨z,hz⟩:∃ z,z=v%pM:=⟨_,rfl⟩
 have HZ:=Lib.hid (And.intro hv hz)
 have hlt:=Lib.hid (hv ▸ addW_lt x y hx hy:v<(2^256))
 rw [show addP x y=z by rw [hz,hv,addW_mod]; rfl]
 clear hz hv
 have HX:=Lib.hid hx
 have HY:=Lib.hid hy
 obtain ⟨x0,x1,x2,x3,fx⟩:=words_fv x hx
 obtain ⟨y0,y1,y2,y3,fy⟩:=words_fv y hy
 have FX:=Lib.hid fx
 have FY:=Lib.hid fy
 rw [fx,fy]
 clear fx fy hx hy
 go_enter Tryz.func299,Tryz.ntmps299
 go_wp2
 refine wp_region_G (λj=>j == 7) (by kernel_rfl) ?_
 try simp only [Act.put]
 refine tkw 0 rfl (YieldsG.loadF (by rfl) _ _ rfl (w.heap.size) rfl (x) _ _ (((Blk.new w _ _).alloc _).alloc _) (FX.out) Tryz.underlying71 rfl (by kernel_rfl)) ?_
 try simp only [Act.put,aA,aZ,aS]
 refine tkw 1 rfl (YieldsG.call (v:=fv x) (by rfl) 294 _ (λw9=>by go_simp; try (first | with_reducible rfl | rfl)) (λw9 h9=>split_any w9 x)) ?_
 try simp only [Act.put,aA,aZ,aS]
 refine tkw 2 rfl (YieldsG.loadF (by rfl) _ _ rfl (w.heap.size+1) rfl (y) _ _ ((blk_new2 w _ _ _).alloc _) (FY.out) Tryz.underlying71 rfl (by kernel_rfl)) ?_
 try simp only [Act.put,aA,aZ,aS]
 refine tkw 3 rfl (YieldsG.call (v:=fv y) (by rfl) 294 _ (λw9=>by go_simp; try (first | with_reducible rfl | rfl)) (λw9 h9=>split_any w9 y)) ?_
 try simp only [Act.put,aA,aZ,aS]
 refine tkw 4 rfl (YieldsG.call (v:=fv v) (by rfl) 298 _ (λw9=>by go_simp; try (first | with_reducible rfl | rfl)) (λw9 h9=>HZ.out.1 ▸ add_def w9 x y HX.out HY.out)) ?_
 try simp only [Act.put,aA,aZ,aS]
 refine tkw 5 rfl (YieldsG.call (v:=fv z) (by rfl) 293 _ (λw9=>by go_simp; try (first | with_reducible rfl | rfl)) (λw9 h9=>HZ.out.2 ▸ reduce_any w9 _ hlt.out)) ?_
 try simp only [Act.put,aA,aZ,aS]
 refine tkw 6 rfl (YieldsG.call (v:=fv z) (by rfl) 292 _ (λw9=>by go_simp; try (first | with_reducible rfl | rfl)) (λw9 h9=>number_any w9 _)) ?_
 try simp only [Act.put,aA,aZ,aS]
 refine wpAnyG_store 7 rfl (by kernel_rfl) (by rfl) _ _ _ rfl (w.heap.size+2) (fcs (z)) rfl rfl _ _ (blk_new3 w _ _ _ _) (by kernel_rfl) (by rfl) (fcs_one _) rfl (λw6 h6 w7 hB7 hL7=>?_)
 try simp only [Act.put]
 refine wpAnyG_done (by kernel_rfl) (λw8 h8=>?_)
 have hfin:=Gr.blk h8 hL7
 have hb9:=(Below.gr (below_alloc3 w _ _ _) h6).trans ((hB7 _ (by omega)).trans (Below.mono h8 (by have:=hL7.lt; omega)))
 go_wp2
 exact bodyPost_ret (results_cell_row rfl _ _ (w.heap.size+2) _ _ (0,0) _ rfl hfin Tryz.underlying71 rfl (by kernel_rfl)) rfl ⟨rfl,hb9⟩
end
end
end Go.Proofs.YtgggdbjakcpanaaGreatDoor
