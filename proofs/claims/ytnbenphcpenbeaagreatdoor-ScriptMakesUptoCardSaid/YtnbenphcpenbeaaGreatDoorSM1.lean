/-
  Texts of ours, put together: Lift2, FeSpec, FeLift, Zz, WirA, ScpA, FeBase, FeAdd, FeOrd, OrdV, Ord4, Rnd, Sym, SymB, SymC, SymE, SymF, SymG, SymG2, SymZ, SymK, SymD, SymY, SymI, SymR, Ec, EcM, FeMul, FeRow, FeProd, FeOps, FeMul2, FeNum, FePow, FeRuns, FeEq, FeSqrt, FeInv, Crv, NumEq, Pnt, ZzK, CrvA, CrvB, RefNum, RefMinus, RowZ, FoldZ, RefFold, RefAdd, MulZ, RefMul, PowZ, RefPow, NumB, FeOwn, RefBytes, CrvC, CurveAlive, FeB32, FeRead, RefSqrt, RootNum, CrvD, CrvF, CrvG, CrvH, CurveBackL, SymT, SymQ, SymW, SymU, WirB, WirC, WirD, WirE, WirF, WirG, WirH, WirI, ScpB, ScpC, SymS, SymP, SymN, ScpD, ScpE.
-/
import Derived.Test.YtnbenphcpenbeaaGreatDoorQMLift
import Derived.Test.YtnbenphcpenbeaaGreatDoorQMOwnAny
import Derived.WalkKit
import Derived.Test.YtnbenphcpenbeaaGreatDoorRows
import Derived.Laws.IdiomArrays
import Derived.Test.YtnbenphcpenbeaaGreatDoorQMMem
import Derived.ProofKit
import Derived.OpenShut
import Derived.Deep.DeepHandedRow
import Derived.Lib.LaidTab
import Derived.KernelRfl
import Derived.Test.YtnbenphcpenbeaaGreatDoorChecked
import Derived.Shelf.Spec.BitsCarry
import Derived.Lib.Mul64
import Derived.Laws.Bits64b
import Derived.Laws.ResultCell
import Derived.Test.YtnbenphcpenbeaaGreatDoorQMOrd
import Derived.OrdersIn
import Derived.TacticsIn
import Derived.RangeFuncCalls
import Derived.ControlIn
import Derived.RangeFuncNested
import Derived.RangeFuncLeaves
import Derived.LoopNIn
import Derived.Laws.AppendOwn
import Derived.Deep.DeepAppendRoom
import Derived.ArgAppend
import Derived.Laws.IdiomCopy
import Derived.Laws.MakeOwn
import Derived.RangeFuncSeq
import Derived.OwnWalkIn
import Derived.RegionTactic
import Derived.ChangeAlike
import Derived.BigRegion
import Derived.Stop.BytesEq
import Derived.Deep.AppendLies
import Derived.OwnWalk
import Derived.Great.BuildSlice
import Derived.Laws.Tables
import Derived.Lib.AppendZeros
import Derived.Scope
import Derived.Deep.Slices
import Derived.SizedLaws
set_option linter.unusedVariables false
set_option linter.unusedSimpArgs false
namespace Go.Proofs.YtnbenphcpenbeaaGreatDoor
section
open Go.RowKit
section
variable {P:Program} {ops:Array Oper} {Q:Exit→Act→World→Prop} {md:Region.Mode} {ex:Nat→Bool}
theorem tkw (i:Nat) {oi:Oper} {v:Value} {fuel:Nat} {listed:Array Bool} {a:Act} {w:World} (hi0:ops.toList[i]? = some oi) (hy:YieldsG P ops oi v a w) (h:wpAnyG P md ops Q ex fuel (listed.setIfInBounds i true) (a.put oi.dst v) w) (hc:canTake md ops listed ex i=true:=by kernel_rfl) (hQ:∀ c a w,Q (.panic c) (a.put oi.dst v) w→Q (.panic c) a w:=by exact λ_ _ _ h=>h):wpAnyG P md ops Q ex (fuel+1) listed a w:=wpAnyG_take i hi0 hc hQ hy h
theorem tk (i:Nat) {oi:Oper} {v:Value} {fuel:Nat} {listed:Array Bool} {a:Act} {w:World} (hi0:ops.toList[i]? = some oi) (h:wpAnyG P md ops Q ex fuel (listed.setIfInBounds i true) (a.put oi.dst v) w) (hw:Region.wanted oi (yielded ops a.tmps)=true:=by rfl) (hg:∀ w1,Gr w w1→(execOp a.eval oi).run P w1=.ok (.value v) w1:=by intro w9 _; go_simp; try with_reducible rfl) (hc:canTake md ops listed ex i=true:=by kernel_rfl) (hQ:∀ c a w,Q (.panic c) (a.put oi.dst v) w→Q (.panic c) a w:=by exact λ_ _ _ h=>h):wpAnyG P md ops Q ex (fuel+1) listed a w:=wpAnyG_take i hi0 hc hQ (YieldsG.pure hw hg) h
end
theorem aA {α:Type _} (l:List α) (i:Nat) (a:α):l.toArray.setIfInBounds i a=(l.set i a).toArray:=List.setIfInBounds_toArray ..
theorem aZ {α:Type _} {x:α} {xs:List α} {a:α}:(x::xs).set 0 a=a::xs:=rfl
theorem aS {α:Type _} {x:α} {xs:List α} {n:Nat} {a:α}:(x::xs).set (n+1) a=x::xs.set n a:=rfl
abbrev Zl (n:Nat):List Value:=List.replicate n (.int .u8 0)
end
section
namespace Sh
open Go.ChangeShapes Go.WideShapes Go.ChangeAt Go.RowKit
end Sh
end
section
section
open Go.RowKit
def qv (n:Nat):Value:=.int .u64 (n:Int)
def fv (n:Nat):Value:=.agg #[qv (n%18446744073709551616),qv (n / 18446744073709551616%18446744073709551616),qv (n / 340282366920938463463374607431768211456%18446744073709551616),qv (n / 6277101735386680763835789423207666416102355444464034512896%18446744073709551616)]
end
end
section
section
open Go.ChangeShapes Go.WideShapes Go.ChangeAt Go.RowKit
section
variable {H:Type} {enc:TypeId×Value→H} {P:Program}
end
end
end
section
section
theorem kR {α:Sort _} {a b:α} (h:a=b:=by kernel_rfl):a=b:=h
theorem kL {a b:Nat} (h:Nat.ble a b=true:=by kernel_rfl):a≤b:=Nat.le_of_ble_eq_true h
theorem kF {α:Sort _} {β:α→Sort _} {f g:(x:α)→β x} (h:∀ x,f x=g x:=by intro _; kernel_rfl) (x:α):f x=g x:=h x
end
end
section
namespace Wr
abbrev Byt:=List UInt8
def said (l:Byt):Nat:=l.foldl (λa b=>256*a+b.toNat) 0
theorem foldl_said (l:Byt) (a:Nat):l.foldl (λa b=>256*a+b.toNat) a=a*256 ^ l.length+said l:=by
 induction l generalizing a with
 | nil=>simp [said]
 | cons b l ih =>
  unfold said
  rw [List.foldl_cons,List.foldl_cons,ih,ih,List.length_cons,Nat.pow_succ,Nat.mul_zero,Nat.zero_add,Nat.add_mul,Nat.add_assoc]
  congr 1
  rw [Nat.mul_comm 256 a,Nat.mul_assoc,Nat.mul_comm 256]
theorem said_cons (b:UInt8) (l:Byt):said (b::l)=b.toNat*256 ^ l.length+said l:=by
 rw [← foldl_said]; unfold said; rw [List.foldl_cons,Nat.mul_zero,Nat.zero_add]
theorem said_snoc (l:Byt) (b:UInt8):said (l++[b])=256*said l+b.toNat:=by simp [said]
theorem said_lt (l:Byt):said l<256 ^ l.length:=by
 induction l with
 | nil=>exact Nat.lt_of_lt_of_le Nat.zero_lt_one (Nat.le_refl _)
 | cons b l ih =>
  rw [said_cons,List.length_cons,Nat.pow_succ]
  have h:b.toNat≤255:=by have:=b.toNat_lt; omega
  have h2:b.toNat*256 ^ l.length≤255*256 ^ l.length:=Nat.mul_le_mul_right _ h
  omega
end Wr
end
section
namespace Pg
open Wr
abbrev Opn:=UInt8×Byt
def follow (c:UInt8):Option Nat:=if c.toNat≤64 then some c.toNat else if c.toNat=104 then some 2 else if 96≤c.toNat∧c.toNat≤108 then some 0 else none
def take (o:List Bool) (c:UInt8):Option (List Bool) :=
 if c.toNat=106 then some (o++[false])
 else if c.toNat=107 then (if o=[]∨o.getLast? = some true then none else some (o.dropLast++[true]))
 else if c.toNat=108 then (if o=[] then none else some o.dropLast)
 else some o
def parseN:Nat→Byt→List Bool→Nat×List Opn
 | _,[],o=>if o=[] then (0,[]) else (135,[])
 | 0,_::_,_=>(131,[])
 | n+1,c::r,o=>match follow c with
  | none=>(131,[])
  | some k=>if r.length<k then (131,[]) else match take o c with
   | none=>(135,[])
   | some o'=>if (parseN n (r.drop k) o').1=0 then (0,(c,r.take k)::(parseN n (r.drop k) o').2) else ((parseN n (r.drop k) o').1,[])
def parse (p:Byt):Nat×List Opn:=if 256<p.length then (130,[]) else parseN p.length p []
def fin (l:List Opn) (q:Nat×List Opn):Nat×List Opn:=if q.1=0 then (0,l++q.2) else (q.1,[])
theorem parseN_err (n:Nat) (p:Byt) (o:List Bool):(parseN n p o).1≠0→(parseN n p o).2=[]:=by
 cases n <;> cases p <;> unfold parseN <;> (repeat' split) <;> first | (intro _; rfl) | (intro h; exact absurd rfl h)
theorem fin_nil (n:Nat) (p:Byt) (o:List Bool):fin [] (parseN n p o)=parseN n p o:=by
 unfold fin
 split
 ·rename_i h; rw [List.nil_append, ← h]
 ·rename_i h; rw [← parseN_err n p o h]
theorem parse_more:∀ (n m:Nat) (p:Byt) (o:List Bool),p.length≤n→p.length≤m→parseN n p o=parseN m p o
 | n,m,[],o,_,_=>by cases n <;> cases m <;> rfl
 | 0,_,_::_,_,h,_=>by simp at h
 | _+1,0,_::_,_,_,h=>by simp at h
 | n+1,m+1,c::r,o,h1,h2=>by
  unfold parseN
  split
  ·rfl
  ·rename_i k _
   split
   ·rfl
   ·split
    ·rfl
    ·rename_i o' _
     have hl:(r.drop k).length≤n:=by rw [List.length_drop]; rw [List.length_cons] at h1; omega
     have hl2:(r.drop k).length≤m:=by rw [List.length_drop]; rw [List.length_cons] at h2; omega
     rw [parse_more n m (r.drop k) o' hl hl2]
def par (p:Byt) (o:List Bool):Nat×List Opn:=parseN p.length p o
theorem par_nil (o:List Bool):par [] o=if o=[] then (0,[]) else (135,[]):=rfl
theorem par_no {c:UInt8} {r:Byt} {o:List Bool} (h:follow c=none):par (c::r) o=(131,[]):=by
 unfold par; rw [List.length_cons]; unfold parseN; rw [h]
theorem par_short {c:UInt8} {r:Byt} {o:List Bool} {k:Nat} (h:follow c=some k) (hk:r.length<k):par (c::r) o=(131,[]):=by
 unfold par; rw [List.length_cons]; unfold parseN; rw [h]; dsimp only; rw [if_pos hk]
theorem par_if {c:UInt8} {r:Byt} {o:List Bool} {k:Nat} (h:follow c=some k) (hk:¬ r.length<k) (ht:take o c=none):par (c::r) o=(135,[]):=by
 unfold par; rw [List.length_cons]; unfold parseN; rw [h]; dsimp only; rw [if_neg hk,ht]
theorem par_go {c:UInt8} {r:Byt} {o o':List Bool} {k:Nat} (h:follow c=some k) (hk:¬ r.length<k) (ht:take o c=some o'):par (c::r) o=fin [(c,r.take k)] (par (r.drop k) o'):=by
 have e:parseN r.length (r.drop k) o'=par (r.drop k) o':=parse_more _ _ _ _ (by rw [List.length_drop]; omega) (Nat.le_refl _)
 have e2:par (c::r) o=if (parseN r.length (r.drop k) o').1=0 then (0,(c,r.take k)::(parseN r.length (r.drop k) o').2) else ((parseN r.length (r.drop k) o').1,[]):=by
  unfold par; rw [List.length_cons]
  conv=>lhs; unfold parseN
  rw [h]; dsimp only; rw [if_neg hk,ht]
 rw [e2,e]
 rfl
theorem fin_fin (l m:List Opn) (q:Nat×List Opn):fin l (fin m q)=fin (l++m) q:=by
 unfold fin
 by_cases h:q.1=0
 ·simp [h]
 ·simp [h]
def okO (x:Opn):Prop:=follow x.1=some x.2.length
theorem parseN_ok:∀ (n:Nat) (p:Byt) (o:List Bool), ∀ x∈(parseN n p o).2,okO x
 | n,[],o=>by
  intro x hx
  cases n <;> (unfold parseN at hx; split at hx <;> cases hx)
 | 0,_::_,_=>by intro x hx; cases hx
 | n+1,c::r,o=>by
  intro x hx
  unfold parseN at hx
  split at hx
  ·cases hx
  ·rename_i k hk
   split at hx
   ·cases hx
   ·split at hx
    ·cases hx
    ·rename_i hl o' _
     split at hx
     ·rcases List.mem_cons.1 hx with rfl | hx
      ·unfold okO; dsimp only; rw [hk,List.length_take,Nat.min_eq_left (by omega)]
      ·exact parseN_ok n _ _ x hx
     ·cases hx
theorem parse_ok (p:Byt):∀ x∈(parse p).2,okO x:=by
 intro x hx
 unfold parse at hx
 split at hx
 ·cases hx
 ·exact parseN_ok _ _ _ x hx
theorem parseN_len:∀ (n:Nat) (p:Byt) (o:List Bool),(parseN n p o).2.length≤n
 | n,[],o=>by cases n <;> (unfold parseN; split <;> simp)
 | 0,_::_,_=>Nat.le_refl _
 | n+1,c::r,o=>by
  unfold parseN
  split
  ·simp
  ·split
   ·simp
   ·split
    ·simp
    ·rename_i k _ _ o' _
     split
     ·rw [List.length_cons]; exact Nat.succ_le_succ (parseN_len n _ _)
     ·simp
theorem parse_len (p:Byt):(parse p).2.length≤256:=by
 unfold parse
 split
 ·simp
 ·exact Nat.le_trans (parseN_len _ _ _) (by omega)
def tru (b:Byt):Bool:=b.any λx=>x != 0
def rS (b:Bool):Byt:=if b then [1] else []
structure Env where
 V:Byt→Byt→Bool
 H:Byt→Byt
 h:Nat
def sgn (E:Env) (s key:Byt):Bool:=decide (key.length=32) && (decide (s.length=64) && E.V key s)
def needs (x:Opn):Nat :=
 if x.1.toNat≤64 then 0 else
 if x.1.toNat=104 then 2*(x.2.getD 1 0).toNat else
 if x.1.toNat=98∨x.1.toNat=101∨x.1.toNat=103 then 2 else
 if x.1.toNat=107∨x.1.toNat=108 then 0 else 1
def shr (E:Env):List Byt→List Byt→Option Nat
 | s::l,k::r=>if s=[] then shr E l r else if sgn E s k then (shr E l r).map (·+1) else none
 | _,_=>some 0
def share (E:Env) (t n:Nat) (l:List Byt):Bool:=match shr E (l.take n) (l.drop n) with | none=>false | some m=>decide (t≤m)
def does (E:Env) (x:Opn) (l:List Byt):Nat×List Byt :=
 let a:=l.getD 0 []
 let b:=l.getD 1 []
 match x.1.toNat with
 | 96=>if tru a then (0,[]) else (134,[])
 | 97=>(0,[rS (!tru a)])
 | 98=>(0,[rS (decide (a=b))])
 | 99=>(0,[a,a])
 | 100=>(0,[])
 | 101=>(0,[b,a])
 | 102=>(0,[E.H a])
 | 103=>(0,[rS (sgn E a b)])
 | 104=>(0,[rS (share E (x.2.getD 0 0).toNat (x.2.getD 1 0).toNat l)])
 | 105=>if 8<a.length∨E.h<said a then (136,[]) else (0,[])
 | 106=>(0,[])
 | 107=>(0,[])
 | 108=>(0,[])
 | _=>(0,[x.2])
def skp (x:Opn) (l:List Byt):Nat:=if x.1.toNat=107∨(x.1.toNat=106∧tru (l.getD 0 [])=false) then 1 else 0
def pas (c:UInt8) (k:Nat):Nat:=if c.toNat=106 then k+1 else if c.toNat=108 then k - 1 else if c.toNat=107∧k=1 then 0 else k
def exec (E:Env):List Opn→List Byt→Nat→Nat
 | [],st,_=>if st.length=1∧tru (st.getD 0 [])=true then 0 else 133
 | x::os,st,k =>
  if 0<k then exec E os st (pas x.1 k)
  else if st.length<needs x then 132
  else if (does E x (st.drop (st.length - needs x))).1≠0 then (does E x (st.drop (st.length - needs x))).1
  else if 32<(st.take (st.length - needs x)++(does E x (st.drop (st.length - needs x))).2).length then 132
  else exec E os (st.take (st.length - needs x)++(does E x (st.drop (st.length - needs x))).2) (skp x (st.drop (st.length - needs x)))
def fits (l:List Byt):Bool:=decide (l.length≤16) && l.all λb=>decide (b.length≤256)
def run (E:Env) (p:Byt) (wit:List Byt):Nat:=if (parse p).1≠0 then (parse p).1 else if fits wit then exec E (parse p).2 wit 0 else 130
end Pg
end
section
section
open Go.RowKit Go.Lib
section
variable {P:Program} {ops:Array Oper} {Q:Exit→Act→World→Prop} {rest:List Oper} {a:Act} {w:World} {d:Option Tmp} {t:TypeId} {p:String} {af:Array Edge} {g:Option (Nat×Bool)}
end
end
end
section
section
open Go.RowKit Go.Lib
theorem fv_G:fv 4294968273=.agg #[.int .u64 4294968273,.int .u64 0,.int .u64 0,.int .u64 0]:=rfl
end
end
section
section
open Go.RowKit Go.Lib
theorem Gr.blk {w w':World} (h:Gr w w') {g:Nat} {t:TypeId} {cs:Array Value} (hg:Blk w g t cs):Blk w' g t cs:=Blk.below hg h hg.lt
theorem Below.gr {w a b:World} (h:Below w.heap.size w a) (g:Gr a b):Below w.heap.size w b:=Below.trans h (Below.mono g (Below.size h))
section
variable {P:Program} {ops:Array Oper} {Q:Exit→Act→World→Prop} {md:Region.Mode} {ex:Nat→Bool}
end
open Go.RowKit
section
variable {P:Program} {ops:Array Oper} {Q:Exit→Act→World→Prop} {md:Region.Mode} {ex:Nat→Bool}
theorem wpOp_putA {j:Nat} {oi oj:Oper} {v:Value} (hj:ops[j]? = some oj) (hap:oi.apart ops oj=true)
  (hsi:∀ cs b,oi.op≠.select cs b) (hsj:∀ cs b,oj.op≠.select cs b)
  (hQ:∀ c a w,Q (.panic c) (a.put oi.dst v) w→Q (.panic c) a w) {K:Act→World→Prop} {a:Act} {w:World}
  (hy:∀ w0,YieldsG P ops oi v a w0) (h:wpOp P ops Q j K (a.put oi.dst v) w) :
  wpOp P ops Q j (λa' w'=>(∀ w0,YieldsG P ops oi v a' w0)∧K (a'.put oi.dst v) w') a w:=by
 obtain ⟨h1,h2,h3⟩:=Oper.apart_spec hap
 have keep:∀ (a:Act),(∀ w0,YieldsG P ops oi v a w0)→∀ u w0,YieldsG P ops oi v (a.put oj.dst u) w0:=λa hy u w0 =>
  (hy w0).of_same (execOp_put oi hsi a oj.dst u h3) (wanted_put oi a oj.dst u h3)
 have keepD:∀ d w0,YieldsG P ops oi v { a with defers:=d::a.defers } w0:=λd w0=>(hy w0).of_same rfl rfl
 unfold wpOp at *
 simp only [hj] at *
 rw [wanted_put oj a oi.dst v h1] at h
 split
 ·rename_i hw
  simp only [hw,if_true] at h
  rcases h with h | ⟨hasks,hlets⟩
  case inr=>exact .inr ⟨by unfold Oper.asks at *; rw [execOp_put oj hsj a oi.dst v h1] at hasks; exact hasks,hlets⟩
  refine .inl ?_
  unfold Oper.wp at *
  rw [execOp_put oj hsj a oi.dst v h1] at h
  generalize (execOp a.eval oj).run P w=r at *
  cases r with
  | ok n w' =>
   cases n <;> simp only [Oper.upon] at h ⊢
   case value u=>exact ⟨keep a hy u,by rw [← Act.put_comm a v u h2]; exact h⟩
   case skip=>exact ⟨keep a hy _,by rw [← Act.put_comm a v undef h2]; exact h⟩
   case defer d =>
    refine ⟨keep _ (keepD d) _,?_⟩
    rw [← Act.put_comm _ v undef h2, ← Act.put_defers]
    exact h
   case enter f args =>
    refine Calls.mono h λe w'' he=>?_
    cases e with
    | returned u=>exact ⟨keep a hy u,by rw [← Act.put_comm a v u h2]; exact he⟩
    | panicked c=>exact hQ _ _ _ he
    | outgrown=>exact he
   case row row args=>exact Rows.mono h λu w'' he=>⟨keep a hy u,by rw [← Act.put_comm a v u h2]; exact he⟩
  | halt x w' =>
   cases x <;> simp only [Oper.upon] at h ⊢
   case panic u=>exact hQ _ _ _ h
 ·rename_i hw
  simp only [hw] at h
  exact ⟨keep a hy _,by rw [← Act.put_comm a v undef h2]; exact h⟩
theorem wpAnyG_firstA {i:Nat} {oi:Oper} {v:Value} (hi:ops[i]? = some oi) (hsel:∀ (j:Nat) (o:Oper) cs b,ops[j]? = some o→o.op≠.select cs b)
  (hQ:∀ c a w,Q (.panic c) (a.put oi.dst v) w→Q (.panic c) a w) :
  ∀ (fuel:Nat) (listed:Array Bool) (a:Act) (w:World),
   (∀ j oj,ops[j]? = some oj→j≠i→listed.getD j true=false→(∀ e∈oj.after,Region.binds md e=true→e.on≠i)→oi.apart ops oj=true) →
   i∈Region.ready md ops listed→(∀ w0,YieldsG P ops oi v a w0) →
   wpAnyG P md ops Q ex fuel (listed.setIfInBounds i true) (a.put oi.dst v) w→wpAnyG P md ops Q ex (fuel+1) listed a w:=by
 intro fuel
 induction fuel with
 | zero =>
  intro listed a w _ hr hy H w1 hw1
  refine ⟨λh=>(by rw [h] at hr; cases hr),λj hj=>?_⟩
  by_cases hji:j=i
  ·subst hji; exact (hy w1).wpOp hi (λw' h'=>⟨λ_=>h',wpAnyG_grow _ _ _ _ _ (hw1.trans h') H⟩)
  ·have:=ready_mono hj hji
   rw [H.1] at this
   cases this
 | succ fuel ih =>
  intro listed a w hfree hr hy H w1 hw1
  refine ⟨λh=>(by rw [h] at hr; cases hr),λj hj=>?_⟩
  by_cases hji:j=i
  ·subst hji; exact (hy w1).wpOp hi (λw' h'=>⟨λ_=>h',wpAnyG_grow _ _ _ _ _ (hw1.trans h') H⟩)
  ·have h1:=(H w1 hw1).2 j (ready_mono hj hji)
   obtain ⟨hjun,oj,hoj,hall⟩:=mem_ready.1 hj
   have hnot:∀ e∈oj.after,Region.binds md e=true→e.on≠i:=λe he hb heq=>by
    have h1:=hall e he hb
    have h0:=(mem_ready.1 hr).1
    rw [heq] at h1
    rcases Nat.lt_or_ge i listed.size with h' | h'
    ·simp [h'] at h0 h1; rw [h0] at h1; cases h1
    ·simp [Array.getElem?_eq_none h'] at h1
   have h2:=wpOp_putA hoj (hfree j oj hoj hji hjun hnot) (λcs b=>hsel i oi cs b hi) (λcs b=>hsel j oj cs b hoj) hQ hy h1
   have hfree':∀ k ok,ops[k]? = some ok→k≠i→(listed.setIfInBounds j true).getD k true=false →
     (∀ e∈ok.after,Region.binds md e=true→e.on≠i)→oi.apart ops ok=true:=λk ok hk hki hun hno=>by
    refine hfree k ok hk hki ?_ hno
    by_cases hjk:j=k
    ·subst hjk; exact hjun
    ·rw [getD_set_ne true hjk] at hun; exact hun
   refine wpOp_mono (λa' w' h3=>⟨h3.2.1,ih (listed.setIfInBounds j true) a' w' hfree' (ready_mono hr (Ne.symm hji)) h3.1 ?_⟩) h2
   rw [Array.setIfInBounds_comm _ _ hji]
   exact h3.2.2
def canTakeA (md:Region.Mode) (ops:Array Oper) (listed:Array Bool) (i:Nat):Bool :=
 Region.noSelect ops && Region.free md ops listed i && (Region.ready md ops listed).contains i
theorem wpAnyG_takeA (i:Nat) {oi:Oper} {v:Value} {fuel:Nat} {listed:Array Bool} {a:Act} {w:World} (hi0:ops.toList[i]? = some oi) (hc:canTakeA md ops listed i=true)
  (hQ:∀ c a w,Q (.panic c) (a.put oi.dst v) w→Q (.panic c) a w) (hy:∀ w0,YieldsG P ops oi v a w0)
  (h:wpAnyG P md ops Q ex fuel (listed.setIfInBounds i true) (a.put oi.dst v) w):wpAnyG P md ops Q ex (fuel+1) listed a w:=by
 have hi:ops[i]? = some oi:=by simpa using hi0
 unfold canTakeA at hc
 simp only [Bool.and_eq_true] at hc
 exact wpAnyG_firstA hi (Region.noSelect_spec hc.1.1) hQ fuel listed a w (Region.free_spec hi hc.1.2) (by simpa using hc.2) hy h
end
section
variable {P:Program} {ops:Array Oper} {Q:Exit→Act→World→Prop} {md:Region.Mode} {ex:Nat→Bool}
end
end
end
section
section
open Go.RowKit
section
variable {P:Program} {ops:Array Oper} {Q:Exit→Act→World→Prop} {md:Region.Mode} {V:List (Nat×Obj)}
end
end
end
section
section
open Go.RowKit
section
variable {P:Program} {ops:Array Oper} {Q:Exit→Act→World→Prop} {md:Region.Mode} {ex:Nat→Bool}
theorem wpAnyG_firstB {i:Nat} {oi:Oper} {v:Value} (bs:Nat→Bool) (hi:ops[i]? = some oi) (hsel:∀ (j:Nat) (o:Oper) cs b,ops[j]? = some o→o.op≠.select cs b)
  (hQ:∀ c a w,Q (.panic c) (a.put oi.dst v) w→Q (.panic c) a w) (hex:∀ k ok,ops[k]? = some ok→ex k=true→bs k=true)
  (hbs:∀ k ok,ops[k]? = some ok→bs k=true→∃ e∈ok.after,Region.binds md e=true∧(e.on=i∨bs e.on=true)) :
  ∀ (fuel:Nat) (listed:Array Bool) (a:Act) (w:World),(∀ k,bs k=true→listed.getD k true=false) →
   (∀ j oj,ops[j]? = some oj→j≠i→listed.getD j true=false→bs j=false→oi.apart ops oj=true) →
   i∈Region.ready md ops listed→YieldsG P ops oi v a w →
   wpAnyG P md ops Q ex fuel (listed.setIfInBounds i true) (a.put oi.dst v) w→wpAnyG P md ops Q ex (fuel+1) listed a w:=by
 intro fuel
 induction fuel with
 | zero =>
  intro listed a w _ _ hr hy H w1 hw1
  refine ⟨λh=>(by rw [h] at hr; cases hr),λj hj=>?_⟩
  by_cases hji:j=i
  ·subst hji; exact (hy.grow hw1).wpOp hi (λw' h'=>⟨λ_=>h',wpAnyG_grow _ _ _ _ _ (hw1.trans h') H⟩)
  ·have:=ready_mono hj hji
   rw [H.1] at this
   cases this
 | succ fuel ih =>
  intro listed a w hl hfree hr hy H w1 hw1
  refine ⟨λh=>(by rw [h] at hr; cases hr),λj hj=>?_⟩
  by_cases hji:j=i
  ·subst hji; exact (hy.grow hw1).wpOp hi (λw' h'=>⟨λ_=>h',wpAnyG_grow _ _ _ _ _ (hw1.trans h') H⟩)
  ·have h1:=(H w1 hw1).2 j (ready_mono hj hji)
   obtain ⟨hjun,oj,hoj,hall⟩:=mem_ready.1 hj
   have hun:∀ k,listed.getD k true=false→listed.getD k false=true→False:=λk h0 h1=>by
    rcases Nat.lt_or_ge k listed.size with h' | h'
    ·simp [h'] at h0 h1; rw [h0] at h1; cases h1
    ·simp [Array.getElem?_eq_none h'] at h1
   have hbj:bs j=false:=by
    cases hb:bs j with
    | false=>rfl
    | true =>
     obtain ⟨e,he,hbd,ho⟩:=hbs j oj hoj hb
     have h2:=hall e he hbd
     rcases ho with ho | ho
     ·rw [ho] at h2; exact (hun i (mem_ready.1 hr).1 h2).elim
     ·exact (hun e.on (hl e.on ho) h2).elim
   have hexj:ex j=false:=by
    cases hxj:ex j with
    | false=>rfl
    | true=>rw [hex j oj hoj hxj] at hbj; cases hbj
   have h2:=wpOp_putG hoj (hfree j oj hoj hji hjun hbj) (λcs b=>hsel i oi cs b hi) (λcs b=>hsel j oj cs b hoj) hQ hy h1
   have hl':∀ k,bs k=true→(listed.setIfInBounds j true).getD k true=false:=λk hk=>by
    have hjk:j≠k:=λe=>by rw [← e,hbj] at hk; cases hk
    rw [getD_set_ne true hjk]; exact hl k hk
   have hfree':∀ k ok,ops[k]? = some ok→k≠i→(listed.setIfInBounds j true).getD k true=false→bs k=false→oi.apart ops ok=true:=λk ok hk hki hun hno=>by
    refine hfree k ok hk hki ?_ hno
    by_cases hjk:j=k
    ·subst hjk; exact hjun
    ·rw [getD_set_ne true hjk] at hun; exact hun
   refine wpOp_mono (λa' w' h3=>⟨h3.2.1,ih (listed.setIfInBounds j true) a' w' hl' hfree' (ready_mono hr (Ne.symm hji)) (h3.1.grow (hw1.trans (h3.2.1 hexj))) ?_⟩) h2
   rw [Array.setIfInBounds_comm _ _ hji]
   exact h3.2.2
def canTakeB (md:Region.Mode) (ops:Array Oper) (listed:Array Bool) (ex:Nat→Bool) (i:Nat) (bs:List Nat):Bool :=
 Region.noSelect ops && (Region.ready md ops listed).contains i && (bs.all λk=>!(listed.getD k true)) &&
 (match ops[i]? with
  | none=>false
  | some oi=>(List.range ops.size).all λk=>match ops[k]? with
   | none=>true
   | some ok=>(!(bs.contains k) || ok.after.any λe=>Region.binds md e && (e.on == i || bs.contains e.on)) && (!(ex k) || bs.contains k) && (k == i || listed.getD k true || bs.contains k || oi.apart ops ok))
theorem wpAnyG_takeB (i:Nat) (bs:List Nat) {oi:Oper} {v:Value} {fuel:Nat} {listed:Array Bool} {a:Act} {w:World} (hi0:ops.toList[i]? = some oi) (hc:canTakeB md ops listed ex i bs=true)
  (hQ:∀ c a w,Q (.panic c) (a.put oi.dst v) w→Q (.panic c) a w) (hy:YieldsG P ops oi v a w)
  (h:wpAnyG P md ops Q ex fuel (listed.setIfInBounds i true) (a.put oi.dst v) w):wpAnyG P md ops Q ex (fuel+1) listed a w:=by
 have hi:ops[i]? = some oi:=by simpa using hi0
 unfold canTakeB at hc
 simp only [hi,Bool.and_eq_true] at hc
 obtain ⟨⟨⟨h1,h2⟩,h3⟩,h4⟩:=hc
 rw [List.all_eq_true] at h3 h4
 have h5:∀ k ok,ops[k]? = some ok→_:=λk ok hk=>by
  have h:=h4 k (List.mem_range.2 (Array.getElem?_eq_some_iff.1 hk).1)
  simp only [hk,Bool.and_eq_true] at h
  exact h
 refine wpAnyG_firstB (λk=>bs.contains k) hi (Region.noSelect_spec h1) hQ (λk ok hk he=>?_) (λk ok hk hb=>?_) fuel listed a w (λk hk=>?_) (λj oj hj hji hun hb=>?_) (by simpa using h2) hy h
 ·have h:=(h5 k ok hk).1.2
  simpa [he] using h
 ·have h:=(h5 k ok hk).1.1
  simp only [hb,Bool.not_true,Bool.false_or] at h
  rw [Array.any_eq_true'] at h
  obtain ⟨e,hm,hx⟩:=h
  simp only [Bool.and_eq_true,Bool.or_eq_true,beq_iff_eq] at hx
  exact ⟨e,hm,hx.1,hx.2⟩
 ·have h:=h3 k (by simpa using hk)
  simpa using h
 ·have h:=(h5 j oj hj).2
  simp only [hun,hb,Bool.or_false,Bool.or_eq_true,beq_iff_eq] at h
  exact h.resolve_left hji
end
end
end
section
namespace Sy
open Go.RowKit
section
variable {P:Program} {ops:Array Oper} {Q:Exit→Act→World→Prop} {md:Region.Mode} {l n:Nat}
end
end Sy
end
section
namespace Sy
open Go.RowKit
abbrev Slots:=List (Nat×Value)
abbrev Blocks:=List (Nat×TypeId×Array Value)
structure Base where
 world:World
 fz:World
 ds:List Deferred
 fence:Fence
 room:Nat
abbrev Base.of (w:World):Base:=⟨w,w,[],Fence.wide,9⟩
def Fr (ds:List Deferred) (a:Act) (n:Nat) (F:Slots):Prop:=a.defers=ds∧a.tmps.size=n∧∀ i v,F.lookup i=some v→a.tmps[i]? = some v
def evF (F:Slots):Operand→Value
 | .tmp t=>(F.lookup t).getD undef
 | .const v=>v
 | .global g=>.pointer (some ⟨g,0,none⟩)
 | .func f=>.func (.func f) #[] #[]
def inF (F:Slots):Operand→Bool
 | .tmp t=>(F.lookup t).isSome
 | _=>true
def putF (F:Slots):Option Tmp→Value→Slots
 | none,_=>F
 | some d,v=>(d,v)::F
def fits (n:Nat):Option Tmp→Bool
 | none=>true
 | some d=>decide (d<n)
theorem Fr.eval {ds:List Deferred} {a:Act} {n:Nat} {F:Slots} (h:Fr ds a n F) {x:Operand} (hx:inF F x=true):a.eval x=evF F x:=by
 cases x with
 | tmp t =>
  obtain ⟨v,hv⟩:=Option.isSome_iff_exists.1 hx
  have:=h.2.2 t v hv
  show a.tmps.getD t undef=(F.lookup t).getD undef
  rw [hv]
  simp [Array.getD_eq_getD_getElem?,this]
 | const v=>rfl
 | global g=>rfl
 | func f=>rfl
theorem Fr.put {ds:List Deferred} {a:Act} {n:Nat} {F:Slots} (h:Fr ds a n F) {d:Option Tmp} (hd:fits n d=true) (v:Value):Fr ds (a.put d v) n (putF F d v):=by
 cases d with
 | none=>exact h
 | some d =>
  have hd':d<n:=of_decide_eq_true hd
  refine ⟨h.1,by simp [Act.put,h.2.1],λi u hi=>?_⟩
  simp only [putF,List.lookup_cons] at hi
  simp only [Act.put]
  by_cases e:i=d
  ·subst e
   simp at hi
   subst hi
   rw [Array.getElem?_setIfInBounds_self_of_lt (by rw [h.2.1]; exact hd')]
  ·have e':(i == d)=false:=by simpa using e
   rw [e'] at hi
   rw [Array.getElem?_setIfInBounds_ne (Ne.symm e)]
   exact h.2.2 i u hi
theorem Fr.less {ds:List Deferred} {a:Act} {n:Nat} {F G:Slots} (h:Fr ds a n F) (hG:∀ i v,G.lookup i=some v→F.lookup i=some v):Fr ds a n G:=⟨h.1,h.2.1,λi v hi=>h.2.2 i v (hG i v hi)⟩
structure St (w0:Base) (w:World) (L:Blocks):Prop where
 below:Below w0.world.heap.size w0.world w
 blk:∀ g t cs,(g,t,cs)∈L→w0.world.heap.size≤g∧Blk w g t cs
 apart:(L.map (·.1)).Nodup
 size:w0.fz.heap.size≤w.heap.size
 non:∀ (k:Nat) (o:Obj),w0.world.heap.size≤k→w0.fz.heap[k]? = some o→o.isCells=false→w.heap[k]? = some o
theorem St.start (w:World):St (Base.of w) w []:=⟨Below.refl _ _,(λ_ _ _ h=>by cases h),List.Pairwise.nil,Nat.le_refl _,λ_ _ _ h _=>h⟩
theorem St.gr {w0:Base} {w w':World} {L:Blocks} (h:St w0 w L) (hg:Gr w w'):St w0 w' L :=
 ⟨Below.gr h.below hg,λg t cs hm=>⟨(h.blk g t cs hm).1,hg.blk (h.blk g t cs hm).2⟩,h.apart,Nat.le_trans h.size hg.size,λk o hk ho hc=>by
  have h1:=h.non k o hk ho hc
  exact (hg.block k (Array.getElem?_eq_some_iff.1 h1).1).trans h1⟩
theorem St.get {w0:Base} {w:World} {L:Blocks} (h:St w0 w L) {i g:Nat} {t:TypeId} {cs:Array Value} (hi:L[i]? = some (g,t,cs)):Blk w g t cs:=(h.blk g t cs (List.mem_of_getElem? hi)).2
theorem St.add {w0:Base} {w w':World} {L:Blocks} (h:St w0 w L) (hg:Gr w w') {g:Nat} {t:TypeId} {cs:Array Value} (hn:w.heap.size≤g) (hb:Blk w' g t cs):St w0 w' (L++[(g,t,cs)]):=by
 have h':=h.gr hg
 refine ⟨h'.below,λg' t' cs' hm=>?_,?_,h'.size,h'.non⟩
 ·rcases List.mem_append.1 hm with hm | hm
  ·exact h'.blk g' t' cs' hm
  ·obtain ⟨rfl,rfl,rfl⟩:g'=g∧t'=t∧cs'=cs:=by simpa using hm
   exact ⟨Nat.le_trans h.below.size hn,hb⟩
 ·rw [List.map_append,List.nodup_append]
  refine ⟨h.apart,by simp,λx hx y hy e=>?_⟩
  obtain ⟨⟨g',t',cs'⟩,hm,rfl⟩:=List.mem_map.1 hx
  have hlt:=(h.blk g' t' cs' hm).2.lt
  have:y=g:=by simpa using hy
  omega
theorem St.set {w0:Base} {w w':World} {L:Blocks} (h:St w0 w L) {i g:Nat} {t:TypeId} {cs cs':Array Value} (hi:L[i]? = some (g,t,cs)) (hg:w.grownBy w' (some g)) (hn:Blk w' g t cs'):St w0 w' (L.set i (g,t,cs')):=by
 have hil:=(List.getElem?_eq_some_iff.1 hi).1
 have hie:=(List.getElem?_eq_some_iff.1 hi).2
 have hbk:=h.blk g t cs (List.mem_of_getElem? hi)
 refine ⟨h.below.trans (below_of_only hg h.below.size hbk.1),λg1 t1 c1 hm=>?_,?_,Nat.le_trans h.size hg.size,λk o hk ho hc=>?_⟩
 ·obtain ⟨j,hj⟩:=List.getElem?_of_mem hm
  rw [List.getElem?_set] at hj
  by_cases e:i=j
  ·subst e
   rw [if_pos rfl,if_pos hil] at hj
   obtain ⟨rfl,rfl,rfl⟩:g=g1∧t=t1∧cs'=c1:=by simpa using hj
   exact ⟨hbk.1,hn⟩
  ·rw [if_neg e] at hj
   have hm1:=h.blk g1 t1 c1 (List.mem_of_getElem? hj)
   refine ⟨hm1.1,hm1.2.grown hg (λeg=>e ?_)⟩
   obtain rfl:g1=g:=by injection eg
   have hjl:=(List.getElem?_eq_some_iff.1 hj).1
   have hje:=(List.getElem?_eq_some_iff.1 hj).2
   have hp:=List.pairwise_iff_getElem.1 h.apart
   rcases Nat.lt_trichotomy i j with hlt | he | hlt
   ·exact (hp i j (by simpa using hil) (by simpa using hjl) hlt (by simp [hie,hje])).elim
   ·exact he
   ·exact (hp j i (by simpa using hjl) (by simpa using hil) hlt (by simp [hie,hje])).elim
 ·rw [List.map_set]
  have:(L.map (·.1)).set i g=L.map (·.1):=by
   apply List.ext_getElem?
   intro j
   rw [List.getElem?_set]
   by_cases e:i=j
   ·subst e
    rw [if_pos rfl,if_pos (by simpa using hil)]
    simp [hi]
   ·rw [if_neg e]
  show ((L.map (·.1)).set i g).Nodup
  rw [this]
  exact h.apart
 ·have h1:=h.non k o hk ho hc
  refine (hg.block k (Array.getElem?_eq_some_iff.1 h1).1 (λe=>?_)).trans h1
  obtain rfl:k=g:=by injection e
  have h2:=hbk.2
  unfold Blk at h2
  rw [h2] at h1
  cases h1
  cases hc
theorem St.less {w0:Base} {w:World} {L M:Blocks} (h:St w0 w L) (hs:M.Sublist L):St w0 w M :=
 ⟨h.below,λg t cs hm=>h.blk g t cs (hs.subset hm),h.apart.sublist (hs.map _),h.size,h.non⟩
def wantedF (ops:Array Oper) (F:Slots) (o:Oper):Option Bool :=
 match o.guard with
 | none=>some true
 | some (j,want)=>match (ops[j]?).bind (·.dst) with
  | none=>some false
  | some t=>match F.lookup t with
   | some (.bool b)=>some (b == want)
   | some _=>some false
   | none=>none
theorem Fr.wanted {ds:List Deferred} {a:Act} {n:Nat} {F:Slots} (h:Fr ds a n F) {ops:Array Oper} {o:Oper} {b:Bool} (hw:wantedF ops F o=some b):Region.wanted o (yielded ops a.tmps)=b:=by
 unfold wantedF at hw
 unfold Region.wanted
 cases hg:o.guard with
 | none=>rw [hg] at hw; simpa using hw
 | some jw =>
  obtain ⟨j,want⟩:=jw
  rw [hg] at hw
  simp only at hw ⊢
  cases hd:(ops[j]?).bind (·.dst) with
  | none =>
   rw [hd] at hw
   simp only [yielded,hd,Option.bind_none] at hw ⊢
   simpa using hw
  | some t =>
   rw [hd] at hw
   simp only at hw
   cases hl:F.lookup t with
   | none=>rw [hl] at hw; cases hw
   | some v =>
    have hv:=h.2.2 t v hl
    rw [hl] at hw
    simp only [yielded,hd,Option.bind_some,hv]
    cases v <;> simp at hw ⊢ <;> exact hw
def good (ops:Array Oper) (n:Nat) (F:Slots) (o:Oper):Bool :=
 (wantedF ops F o == some true) && o.op.operands.all (inF F) && fits n o.dst && (match o.op with | .select ..=>false | _=>true)
theorem good_spec {ops:Array Oper} {n:Nat} {F:Slots} {o:Oper} (h:good ops n F o=true):wantedF ops F o=some true∧(∀ x∈o.op.operands,inF F x=true)∧fits n o.dst=true∧∀ cs b,o.op≠.select cs b:=by
 unfold good at h
 simp only [Bool.and_eq_true,beq_iff_eq] at h
 obtain ⟨⟨⟨h1,h2⟩,h3⟩,h4⟩:=h
 refine ⟨h1,Array.all_eq_true_iff_forall_mem.1 h2,h3,λcs b e=>?_⟩
 rw [e] at h4
 cases h4
theorem good_exec {ops:Array Oper} {n:Nat} {F:Slots} {o:Oper} (h:good ops n F o=true) {ds:List Deferred} {a:Act} (ha:Fr ds a n F):execOp a.eval o=execOp (evF F) o :=
 execOp_congr o (good_spec h).2.2.2 λx hx=>ha.eval ((good_spec h).2.1 x (by simpa using hx))
def Quiet (P:Program) (w0:Base) (F:Slots) (L:Blocks) (o:Oper) (v:Value):Prop:=∀ w,St w0 w L→Gives P (execOp (evF F) o) v w
theorem Quiet.pure {P:Program} {w0:Base} {F:Slots} {L:Blocks} {o:Oper} {v:Value} (h:∀ w,(execOp (evF F) o).run P w=.ok (.value v) w):Quiet P w0 F L o v:=λw _=>by
 unfold Gives; rw [h w]; exact ⟨rfl,Gr.refl _⟩
theorem Quiet.load {P:Program} {w0:Base} {F:Slots} {L:Blocks} {o:Oper} (i g f k:Nat) (t ty:TypeId) (cs:Array Value) (d:TypeDesc) (x:Operand) (ho:o.op=.load ty x) (hx:evF F x=.pointer (some ⟨g,f,none⟩))
  (hL:L[i]? = some (g,t,cs)) (hu:P.underlying ty=some d) (hd:d.isRow=true) (hi:(P.info? ty).map (·.size)=some k) (v:Value) (hv:Value.agg ((cs.toList.drop f).take k).toArray=v) (hk:f+k≤cs.size):Quiet P w0 F L o v:=λw hw=>by
 have hb:=hw.get hL
 have hl:=run_loadVar_mid (P:=P) w g f ty ((cs.toList.drop f).take k) d (λj u hj=>by
  rw [hb.cell]
  have hlt:j<k:=by
   have:=(List.getElem?_eq_some_iff.1 hj).1
   simp at this; omega
  rw [List.getElem?_take_of_lt hlt,List.getElem?_drop] at hj
  simpa using hj) hu hd (by rw [hi]; simp; omega)
 unfold Gives execOp
 simp only [ho,hx,Instr.loadAt,Instr.sureAddr,Sem.run_bind,Sem.run_pure,Result.andThen_ok,hl]
 exact ⟨hv,Gr.refl _⟩
theorem Quiet.cell {P:Program} {w0:Base} {F:Slots} {L:Blocks} {o:Oper} (i g f:Nat) (t ty:TypeId) (cs:Array Value) (d:TypeDesc) (x:Operand) (ho:o.op=.load ty x) (hx:evF F x=.pointer (some ⟨g,f,none⟩))
  (hL:L[i]? = some (g,t,cs)) (hu:P.underlying ty=some d) (hd:d.isRow=false) (v:Value) (hv:cs[f]? = some v):Quiet P w0 F L o v:=λw hw=>by
 have hb:=hw.get hL
 have hc:w.cell? ⟨g,f,none⟩=some v:=(hb.cell f).trans hv
 have ha:(isAgg ty).run P w=.ok false w:=by
  cases d <;> first | (cases hd; done) | simp [isAgg,underlying,hu]
 unfold Gives execOp
 simp only [ho,hx,Instr.loadAt,Instr.sureAddr,Sem.run_bind,Sem.run_pure,Result.andThen_ok,loadVar,ha,Bool.false_eq_true,if_false,run_load,hc]
 exact ⟨trivial,Gr.refl _⟩
section
variable {P:Program} {w0:Base} {n:Nat}
def wpC (P:Program) (w0:Base) (n:Nat) (Q:Exit→Act→World→Prop) (F:Slots) (L:Blocks) (c:Code):Prop:=∀ a w,Fr w0.ds a n F→St w0 w L→c.wpIn w0.fence w0.room P Q a w
def wpS (P:Program) (w0:Base) (n:Nat) (ops:Array Oper) (Q:Exit→Act→World→Prop) (F:Slots) (L:Blocks) (l:List Oper):Prop:=∀ a w,Fr w0.ds a n F→St w0 w L→wpList P ops Q l a w
def wpD (P:Program) (w0:Base) (n:Nat) (ops:Array Oper) (Q:Exit→Act→World→Prop) (ex:Nat→Bool) (F:Slots) (L:Blocks) (fuel:Nat) (listed:Array Bool):Prop:=∀ a w,Fr w0.ds a n F→St w0 w L→wpAnyG P .any ops Q ex fuel listed a w
def X (w0:Base) (n:Nat) (Q:Exit→Act→World→Prop) (F:Slots) (L:Blocks) (e:Exit):Prop:=∀ a w,Fr w0.ds a n F→St w0 w L→Q e a w
variable {Q:Exit→Act→World→Prop} {F:Slots} {L:Blocks}
theorem seq {x y:Code} (h:wpC P w0 n (Exit.then (y.wpIn w0.fence w0.room P Q) Q) F L x):wpC P w0 n Q F L (.seq x y):=λa w ha hw=>wpIn_seq (h a w ha hw)
theorem then_ {y:Code} (h:wpC P w0 n Q F L y):X w0 n (Exit.then (y.wpIn w0.fence w0.room P Q) Q) F L .normal:=h
theorem then_ret {K:Act→World→Prop} (h:X w0 n Q F L .ret):X w0 n (Exit.then K Q) F L .ret:=h
theorem then_exit {K:Act→World→Prop} {i:Nat} (h:X w0 n Q F L (.exit i)):X w0 n (Exit.then K Q) F L (.exit i):=h
theorem block {i:Nat} {c:Code} (h:wpC P w0 n (Exit.inBlock i Q) F L c):wpC P w0 n Q F L (.block i c):=λa w ha hw=>wpIn_block (h a w ha hw)
theorem in_ {i:Nat} (h:X w0 n Q F L .normal):X w0 n (Exit.inBlock i Q) F L .normal:=h
theorem in_ret {i:Nat} (h:X w0 n Q F L .ret):X w0 n (Exit.inBlock i Q) F L .ret:=h
theorem in_exit {i:Nat} (h:X w0 n Q F L .normal):X w0 n (Exit.inBlock i Q) F L (.exit i):=λa w ha hw=>by
 show if i=i then Q .normal a w else Q (.exit i) a w
 rw [if_pos rfl]; exact h a w ha hw
theorem skip (h:X w0 n Q F L .normal):wpC P w0 n Q F L .skip:=λa w ha hw=>wpIn_skip (h a w ha hw)
theorem ret (h:X w0 n Q F L .ret):wpC P w0 n Q F L .ret:=λa w ha hw=>wpIn_ret (h a w ha hw)
theorem exit {i:Nat} (h:X w0 n Q F L (.exit i)):wpC P w0 n Q F L (.exit i):=λa w ha hw=>wpIn_exit (h a w ha hw)
theorem cond_t {c:Operand} {x y:Code} (hi:inF F c=true) (hc:evF F c=.bool true) (h:wpC P w0 n Q F L x):wpC P w0 n Q F L (.cond c x y):=λa w ha hw=>wpIn_cond_true ((ha.eval hi).trans hc) (h a w ha hw)
theorem cond_f {c:Operand} {x y:Code} (hi:inF F c=true) (hc:evF F c=.bool false) (h:wpC P w0 n Q F L y):wpC P w0 n Q F L (.cond c x y):=λa w ha hw=>wpIn_cond_false ((ha.eval hi).trans hc) (h a w ha hw)
variable {ops:Array Oper} {o:Oper} {l:List Oper}
theorem region {i:Nat} (h:wpS P w0 n ops Q F L ops.toList) (hf:w0.fence=Fence.wide:=by rfl):wpC P w0 n Q F L (.region i ops false):=λa w ha hw=>by
 rw [hf]
 exact wpIn_wide.2 (wp_region_list (h a w ha hw))
theorem nil (h:X w0 n Q F L .normal):wpS P w0 n ops Q F L []:=λa w ha hw=>wpList_nil (h a w ha hw)
theorem step (hg:good ops n F o=true) (v:Value) (hq:Quiet P w0 F L o v) (h:wpS P w0 n ops Q (putF F o.dst v) L l):wpS P w0 n ops Q F L (o::l):=λa w ha hw=>by
 obtain ⟨g1,_,g3,_⟩:=good_spec hg
 refine wpList_step λK hK=>?_
 rw [if_pos (ha.wanted g1)]
 have h0:=hq w hw
 have he:=good_exec hg ha
 unfold Gives at h0
 unfold Oper.wp
 rw [he]
 generalize (execOp (evF F) o).run P w=r at *
 cases r with
 | ok x w' =>
  cases x <;> simp only [Oper.upon] at h0 ⊢
  case value u=>rw [h0.1]; exact hK _ _ (h _ _ (ha.put g3 v) (hw.gr h0.2))
  case skip=>rw [← h0.1]; exact hK _ _ (h _ _ (ha.put g3 v) (hw.gr h0.2))
  case enter f args =>
   refine Calls.mono h0 λe w'' he=>?_
   rw [he.1]
   exact hK _ _ (h _ _ (ha.put g3 v) (hw.gr he.2))
 | halt x w'=>cases x <;> exact h0.elim
theorem pass (hg:wantedF ops F o=some false) (hd:fits n o.dst=true) (h:wpS P w0 n ops Q (putF F o.dst undef) L l):wpS P w0 n ops Q F L (o::l):=λa w ha hw=>by
 refine wpList_step λK hK=>?_
 rw [if_neg (by rw [ha.wanted hg]; exact Bool.false_ne_true)]
 exact hK _ _ (h _ _ (ha.put hd undef) hw)
def Makes (P:Program) (F:Slots) (o:Oper) (t:TypeId) (cs:Array Value) (val:Nat→Value):Prop:=∀ w,(execOp (evF F) o).run P w=.ok (.value (val w.heap.size)) (w.alloc (.cells cs t))
def ptr (g:Nat):Value:=.pointer (some ⟨g,0,none⟩)
theorem make (hg:good ops n F o=true) (t:TypeId) (cs:Array Value) (val:Nat→Value) (hm:Makes P F o t cs val) (h:∀ g,wpS P w0 n ops Q (putF F o.dst (val g)) (L++[(g,t,cs)]) l):wpS P w0 n ops Q F L (o::l):=λa w ha hw=>by
 obtain ⟨g1,_,g3,_⟩:=good_spec hg
 refine wpList_step λK hK=>?_
 rw [if_pos (ha.wanted g1)]
 unfold Oper.wp
 rw [good_exec hg ha,hm w]
 exact hK _ _ (h w.heap.size _ _ (ha.put g3 _) (hw.add (gr_alloc w _) (Nat.le_refl _) (Blk.new w t cs)))
def Writes (P:Program) (F:Slots) (o:Oper) (g:Nat) (t:TypeId) (cs cs':Array Value):Prop :=
 ∀ w,Blk w g t cs→∃ w',(execOp (evF F) o).run P w=.ok .skip w'∧w.grownBy w' (some g)∧Blk w' g t cs'
theorem Writes.store {F:Slots} {o:Oper} (f:Nat) {g:Nat} {t:TypeId} {cs cs':Array Value} (ty:TypeId) (cells:Array Value) (x y:Operand) (ho:o.op=.store ty x y) (hx:evF F x=.pointer (some ⟨g,f,none⟩)) (hy:evF F y=.agg cells)
  (hi:(P.info? ty).map (·.size)=some cells.size) (hk:f+cells.size≤cs.size) (h1:cells.all (·.oneCell')=true) (hcs:setAll cs f cells.toList=cs'):Writes P F o g t cs cs' :=
 λw hb=>⟨w.setCells g f cells.toList,by
  unfold execOp
  simp only [ho,hx,hy,run_storeAt_mid w g f ty cells (hb.there f cells.size hk) hi h1,Sem.run_bind,Sem.run_pure,Result.andThen_ok],
  only_setCells cells.toList f w (World.grownBy.refl w (some g)),
  hcs ▸ Blk.setCells cells.toList f w cs hb⟩
theorem write (hg:good ops n F o=true) (i g:Nat) (t:TypeId) (cs cs':Array Value) (hL:L[i]? = some (g,t,cs)) (hm:Writes P F o g t cs cs') (h:wpS P w0 n ops Q (putF F o.dst undef) (L.set i (g,t,cs')) l):wpS P w0 n ops Q F L (o::l):=λa w ha hw=>by
 obtain ⟨g1,_,g3,_⟩:=good_spec hg
 obtain ⟨w',h1,h2,h3⟩:=hm w (hw.get hL)
 refine wpList_step λK hK=>?_
 rw [if_pos (ha.wanted g1)]
 unfold Oper.wp
 rw [good_exec hg ha,h1]
 exact hK _ _ (h _ _ (ha.put g3 _) (hw.set hL h2 h3))
variable {ex:Nat→Bool} {fuel:Nat} {listed:Array Bool}
theorem regionD {i:Nat} (ex:Nat→Bool) (hm:P.follows .mixedOrders=true) (h:wpD P w0 n ops Q ex F L ops.size (Array.replicate ops.size false)) (hf:w0.fence=Fence.wide:=by rfl):wpC P w0 n Q F L (.region i ops true):=λa w ha hw=>by
 rw [hf]
 exact wpIn_wide.2 (wp_region_G ex hm (h a w ha hw))
theorem doneD (hr:Region.ready .any ops listed=[]) (h:X w0 n Q F L .normal):wpD P w0 n ops Q ex F L fuel listed:=λa _ ha hw=>wpAnyG_done hr λw1 h1=>h a w1 ha (hw.gr h1)
theorem quiet_yields {o:Oper} {v:Value} {a:Act} {w:World} (hg:good ops n F o=true) (hq:Quiet P w0 F L o v) (ha:Fr w0.ds a n F) (hw:St w0 w L):YieldsG P ops o v a w :=
 .inl ⟨ha.wanted (good_spec hg).1,λw1 h1=>by rw [good_exec hg ha]; exact hq w1 (hw.gr h1)⟩
theorem stepD (i:Nat) {oi:Oper} (hi0:ops.toList[i]? = some oi) (hc:canTake .any ops listed ex i=true) (hQ:∀ c v a w,Q (.panic c) (a.put oi.dst v) w→Q (.panic c) a w)
  (hg:good ops n F oi=true) (v:Value) (hq:Quiet P w0 F L oi v) (h:wpD P w0 n ops Q ex (putF F oi.dst v) L fuel (listed.setIfInBounds i true)):wpD P w0 n ops Q ex F L (fuel+1) listed:=λ_ _ ha hw =>
 wpAnyG_take i hi0 hc (λc=>hQ c v) (quiet_yields hg hq ha hw) (h _ _ (ha.put (good_spec hg).2.2.1 v) hw)
theorem stepDB (i:Nat) (bs:List Nat) {oi:Oper} (hi0:ops.toList[i]? = some oi) (hc:canTakeB .any ops listed ex i bs=true) (hQ:∀ c v a w,Q (.panic c) (a.put oi.dst v) w→Q (.panic c) a w)
  (hg:good ops n F oi=true) (v:Value) (hq:Quiet P w0 F L oi v) (h:wpD P w0 n ops Q ex (putF F oi.dst v) L fuel (listed.setIfInBounds i true)):wpD P w0 n ops Q ex F L (fuel+1) listed:=λ_ _ ha hw =>
 wpAnyG_takeB i bs hi0 hc (λc=>hQ c v) (quiet_yields hg hq ha hw) (h _ _ (ha.put (good_spec hg).2.2.1 v) hw)
theorem stepDA (i:Nat) {oi:Oper} (hi0:ops.toList[i]? = some oi) (hc:canTakeA .any ops listed i=true) (hQ:∀ c v a w,Q (.panic c) (a.put oi.dst v) w→Q (.panic c) a w)
  (hg:good ops n F oi=true) (v:Value) (hq:∀ w,(execOp (evF F) oi).run P w=.ok (.value v) w) (h:wpD P w0 n ops Q ex (putF F oi.dst v) L fuel (listed.setIfInBounds i true)):wpD P w0 n ops Q ex F L (fuel+1) listed:=λa w ha hw =>
 wpAnyG_takeA i hi0 hc (λc=>hQ c v) (λw'=>.inl ⟨ha.wanted (good_spec hg).1,λw1 _=>by rw [good_exec hg ha]; unfold Gives; rw [hq w1]; exact ⟨rfl,Gr.refl _⟩⟩) (h _ _ (ha.put (good_spec hg).2.2.1 v) hw)
theorem passD (i:Nat) {oi:Oper} (hi0:ops.toList[i]? = some oi) (hc:canTake .any ops listed ex i=true) (hQ:∀ c v a w,Q (.panic c) (a.put oi.dst v) w→Q (.panic c) a w)
  (hg:wantedF ops F oi=some false) (hd:fits n oi.dst=true) (h:wpD P w0 n ops Q ex (putF F oi.dst undef) L fuel (listed.setIfInBounds i true)):wpD P w0 n ops Q ex F L (fuel+1) listed:=λ_ _ ha hw =>
 wpAnyG_take i hi0 hc (λc=>hQ c undef) (YieldsG.skip (ha.wanted hg)) (h _ _ (ha.put hd undef) hw)
theorem makeD (i:Nat) {oi:Oper} (hi0:ops.toList[i]? = some oi) (hr:Region.ready .any ops listed=[i]) (hg:good ops n F oi=true) (t:TypeId) (cs:Array Value) (val:Nat→Value) (hm:Makes P F oi t cs val)
  (h:∀ g,wpD P w0 n ops Q ex (putF F oi.dst (val g)) (L++[(g,t,cs)]) fuel (listed.setIfInBounds i true)):wpD P w0 n ops Q ex F L (fuel+1) listed:=λa w ha hw =>
 wpAnyG_sole i hi0 hr (ha.wanted (good_spec hg).1) λw1 h1 K hK=>by
  unfold Oper.wp
  rw [good_exec hg ha,hm w1]
  exact hK _ _ (λ_=>gr_alloc w1 _) (h w1.heap.size _ _ (ha.put (good_spec hg).2.2.1 _) ((hw.gr h1).add (gr_alloc w1 _) (Nat.le_refl _) (Blk.new w1 t cs)))
theorem writeD (k:Nat) {oi:Oper} (hi0:ops.toList[k]? = some oi) (hr:Region.ready .any ops listed=[k]) (hex:ex k=true) (hg:good ops n F oi=true) (i g:Nat) (t:TypeId) (cs cs':Array Value) (hL:L[i]? = some (g,t,cs)) (hm:Writes P F oi g t cs cs')
  (h:wpD P w0 n ops Q ex (putF F oi.dst undef) (L.set i (g,t,cs')) fuel (listed.setIfInBounds k true)):wpD P w0 n ops Q ex F L (fuel+1) listed:=λa w ha hw =>
 wpAnyG_sole k hi0 hr (ha.wanted (good_spec hg).1) λw1 h1 K hK=>by
  obtain ⟨w',e1,e2,e3⟩:=hm w1 ((hw.gr h1).get hL)
  unfold Oper.wp
  rw [good_exec hg ha,e1]
  exact hK _ _ (λe=>by rw [hex] at e; cases e) (h _ _ (ha.put (good_spec hg).2.2.1 _) ((hw.gr h1).set hL e2 e3))
def Gets (w0:World) (v:Value) (e:Ending) (w':World):Prop:=e=.returned v∧Below w0.heap.size w0 w'
def slotsOf:Nat→List Value→Slots
 | _,[]=>[]
 | i,v::r=>(i,v)::slotsOf (i+1) r
theorem lookup_slotsOf:∀ (l:List Value) (i j:Nat) (v:Value),(slotsOf i l).lookup j=some v→i≤j∧l[j - i]? = some v
 | [],_,_,_,h=>by cases h
 | u::r,i,j,v,h=>by
  simp only [slotsOf,List.lookup_cons] at h
  by_cases e:j=i
  ·subst e
   simp at h
   subst h
   exact ⟨Nat.le_refl _,by simp⟩
  ·have e':(j == i)=false:=by simpa using e
   rw [e'] at h
   obtain ⟨h1,h2⟩:=lookup_slotsOf r (i+1) j v h
   refine ⟨by omega,?_⟩
   rw [show j - i=(j - (i+1))+1 by omega]
   simpa using h2
theorem enter {f:FuncId} {fn:Func} {c:Code} {args:List Value} {w:World} {R:Ending→World→Prop} (hf:P.funcs[f]? = some fn) (hb:fn.body=some c) (hn:args.length≤fn.ntmps)
  (h:wpC P (Base.of w) fn.ntmps (bodyPost P fn R) (slotsOf 0 args) [] c):Calls P f args.toArray w R :=
 calls_of_wp hf hb (wpIn_wide.1 (h _ _ ⟨rfl,by simp; omega,λi v hi=>by
  have:=(lookup_slotsOf args 0 i v hi).2
  rw [Nat.sub_zero] at this
  have hl:=(List.getElem?_eq_some_iff.1 this).1
  rw [Array.getElem?_append_left (by simpa using hl)]
  simpa using this⟩ (St.start w)))
def Res (P:Program) (F:Slots) (L:Blocks) (r:ResultVar) (v:Value):Prop :=
 match r with
 | .tmp t=>F.lookup t=some v
 | .cell t ty=>∃ (g i:Nat) (ty':TypeId) (cs:Array Value) (d:TypeDesc),F.lookup t=some (.pointer (some ⟨g,0,none⟩))∧L[i]? = some (g,ty',cs)∧P.underlying ty=some d∧d.isRow=true∧(P.info? ty).map (·.size)=some cs.size∧v=.agg cs
def ResC (P:Program) (F:Slots) (L:Blocks) (t:Tmp) (ty:TypeId) (v:Value):Prop :=
 ∃ (g i:Nat) (ty':TypeId) (cs:Array Value) (d:TypeDesc),F.lookup t=some (.pointer (some ⟨g,0,none⟩))∧L[i]? = some (g,ty',cs)∧P.underlying ty=some d∧d.isRow=false∧cs[0]? = some v
abbrev Has (P:Program) (F:Slots) (L:Blocks) (r:ResultVar) (v:Value):Prop:=Res P F L r v∨∃ t ty,r=.cell t ty∧ResC P F L t ty v
theorem Res.run {ds:List Deferred} {a:Act} {w:World} {r:ResultVar} {v:Value} (h:Has P F L r v) (ha:Fr ds a n F) (hw:St w0 w L) :
  (∃ t,r=.tmp t∧a.tmps[t]?.getD undef=v)∨∃ t ty ad,r=.cell t ty∧(asAddr (a.tmps[t]?.getD undef)).run P w=.ok ad w∧(loadVar ty ad).run P w=.ok v w:=by
 rcases h with h | ⟨t,ty,rfl,g,i,ty',cs,d,h1,h2,h3,h4,h5⟩
 ·cases r with
  | tmp t=>exact .inl ⟨t,rfl,by simp [ha.2.2 t v h]⟩
  | cell t ty =>
   obtain ⟨g,i,ty',cs,d,h1,h2,h3,h4,h5,rfl⟩:=h
   have e2:=run_loadVar_row (P:=P) w g ty' ty cs (0,0) d (hw.get h2) h3 (by cases d <;> first | rfl | cases h4) h5
   exact .inr ⟨t,ty,⟨g,0,none⟩,rfl,by simp [ha.2.2 t _ h1,asAddr],e2⟩
 ·have hb:=hw.get h2
  have hc:w.cell? ⟨g,0,none⟩=some v:=(hb.cell 0).trans h5
  have hag:(isAgg ty).run P w=.ok false w:=by
   cases d <;> first | (cases h4; done) | simp [isAgg,underlying,h3]
  exact .inr ⟨t,ty,⟨g,0,none⟩,rfl,by simp [ha.2.2 t _ h1,asAddr],by simp [loadVar,hag,hc,Result.andThen]⟩
theorem ret1 {w1:World} {fn:Func} {r:ResultVar} {v:Value} (hr:fn.results=#[r]) (h:Has P F L r v):X (Base.of w1) n (bodyPost P fn (Gets w1 v)) F L .ret:=λa w ha hw=>by
 refine bodyPost_ret (v:=v) ?_ ha.1 ⟨rfl,hw.below⟩
 rcases Res.run h ha hw with ⟨t,rfl,e1⟩ | ⟨t,ty,ad,rfl,e1,e2⟩ <;> simp [results,Result.andThen, *]
theorem ret2 {w1:World} {fn:Func} {r s:ResultVar} {v u:Value} (hr:fn.results=#[r,s]) (h:Has P F L r v) (k:Has P F L s u):X (Base.of w1) n (bodyPost P fn (Gets w1 (.tuple #[v,u]))) F L .ret:=λa w ha hw=>by
 refine bodyPost_ret (v:=.tuple #[v,u]) ?_ ha.1 ⟨rfl,hw.below⟩
 rcases Res.run h ha hw with ⟨t,rfl,e1⟩ | ⟨t,ty,ad,rfl,e1,e2⟩ <;> rcases Res.run k ha hw with ⟨t',rfl,f1⟩ | ⟨t',ty',ad',rfl,f1,f2⟩ <;> simp [results,Result.andThen, *]
end
end Sy
end
section
namespace Sy
open Go.RowKit
theorem St.setNew {w0:Base} {w w':World} {L:Blocks} (h:St w0 w L) (hg:Gr w w') {i g:Nat} {t:TypeId} {cs:Array Value} (hi:i<L.length) (hn:w.heap.size≤g) (hb:Blk w' g t cs):St w0 w' (L.set i (g,t,cs)):=by
 have h':=h.gr hg
 refine ⟨h'.below,λg1 t1 c1 hm=>?_,?_,h'.size,h'.non⟩
 ·rcases List.mem_or_eq_of_mem_set hm with hm | e
  ·exact ⟨(h.blk g1 t1 c1 hm).1,hg.blk (h.blk g1 t1 c1 hm).2⟩
  ·obtain ⟨rfl,rfl,rfl⟩:g1=g∧t1=t∧c1=cs:=by simpa using e
   exact ⟨Nat.le_trans h.below.size hn,hb⟩
 ·rw [List.map_set]
  have hlt:∀ x∈L.map (·.1),x<g:=λx hx=>by
   obtain ⟨⟨g1,t1,c1⟩,hm,rfl⟩:=List.mem_map.1 hx
   exact Nat.lt_of_lt_of_le (h.blk g1 t1 c1 hm).2.lt hn
  have hp:=h.apart
  generalize L.map (·.1)=l at hlt hp
  clear h hb hi
  induction l generalizing i with
  | nil=>exact List.Pairwise.nil
  | cons x l ih =>
   obtain ⟨h1,h2⟩:=List.nodup_cons.1 hp
   cases i with
   | zero =>
    refine List.nodup_cons.2 ⟨λhm=>?_,h2⟩
    have:=hlt g (List.mem_cons_of_mem _ hm)
    omega
   | succ i =>
    refine List.nodup_cons.2 ⟨λhm=>?_,ih (λy hy=>hlt y (List.mem_cons_of_mem _ hy)) h2⟩
    rcases List.mem_or_eq_of_mem_set hm with hm | e
    ·exact h1 hm
    ·have:=hlt x (List.mem_cons_self ..)
     omega
theorem addr_off (b f q:Nat):(⟨b,f,none⟩:Addr).add q=⟨b,f+q,none⟩:=by unfold Addr.add; split <;> simp_all
section
variable {P:Program} {w0:Base} {n:Nat} {Q:Exit→Act→World→Prop} {F:Slots} {L:Blocks} {ops:Array Oper} {o:Oper} {l:List Oper}
theorem Quiet.callS {v:Value} (f:FuncId) (args:Array Value) (he:∀ w,(execOp (evF F) o).run P w=.ok (.enter f args) w)
  (h:∀ w,St w0 w L→Calls P f args w (Gets w v)):Quiet P w0 F L o v:=λw hw=>by
 unfold Gives; rw [he w]; exact h w hw
theorem Writes.one (f:Nat) {g:Nat} {t:TypeId} {cs cs':Array Value} (ty:TypeId) (v:Value) (x y:Operand) (ho:o.op=.store ty x y) (hx:evF F x=.pointer (some ⟨g,f,none⟩)) (hy:evF F y=v)
  (hi:(P.info? ty).map (·.size)=some 1) (hv:v.cells=#[v]) (h1:v.oneCell'=true) (hk:f<cs.size) (hcs:cs.setIfInBounds f v=cs'):Writes P F o g t cs cs' :=
 λw hb=>⟨w.setCell ⟨g,f,none⟩ v,by
  have hth:=hb.there f 1 hk
  have hst:=run_storeCells_cells (P:=P) g f [v] 0 w (λj hj=>by simpa using (hth j hj).1) (λj hj=>by simpa using (hth j hj).2) (λu hu=>by rw [List.mem_singleton.1 hu]; exact h1)
  unfold execOp
  cases hq:P.info? ty with
  | none=>simp [hq] at hi
  | some i =>
   have hs:i.size=1:=by simpa [hq] using hi
   simp only [World.setCells,Nat.add_zero] at hst
   simp [ho,hx,hy,Instr.storeAt,Instr.sureAddr,storeVar,sizeOf,typeInfo,hq,hs,hv,hst,Result.andThen],
  only_setCell (World.grownBy.refl w (some g)) (.inl rfl) v,hcs ▸ hb.set_ f v⟩
theorem loopI {c:Code} (N:Nat) (I:Nat→Act→World→Prop) (h0:∀ a w,Fr w0.ds a n F→St w0 w L→I 0 a w)
  (hr:∀ i,i≤N→∀ a w,I i a w→c.wpIn w0.fence w0.room P (Exit.then (λa w=>i<N∧I (i+1) a w) Q) a w):wpC P w0 n Q F L (.loop c):=λa w ha hw=>by
 refine wpIn_loop_rounds (N+1) ?_
 have key:∀ k i,i+k=N→∀ a w,I i a w→Code.roundsIn w0.fence w0.room P c Q (k+1) a w:=by
  intro k
  induction k with
  | zero =>
   intro i hi a w h
   refine wpIn_mono (hr i (by omega) a w h) λe a w hq=>?_
   cases e <;> first | exact hq | exact absurd hq.1 (by omega)
  | succ k ih =>
   intro i hi a w h
   refine wpIn_mono (hr i (by omega) a w h) λe a w hq=>?_
   cases e <;> first | exact hq | exact ih (i+1) (by omega) a w hq.2
 exact key N 0 (by omega) a w (h0 a w ha hw)
theorem lookup_all:∀ (G:Slots),(∀ p∈G,F.lookup p.1=some p.2)→∀ i v,G.lookup i=some v→F.lookup i=some v
 | [],_,_,_,h=>by cases h
 | (q,u)::G,hG,i,v,h=>by
  simp only [List.lookup_cons] at h
  by_cases e:i=q
  ·subst e
   simp at h
   subst h
   exact hG (i,u) (List.mem_cons_self ..)
  ·have e':(i == q)=false:=by simpa using e
   rw [e'] at h
   exact lookup_all G (λp hp=>hG p (List.mem_cons_of_mem _ hp)) i v h
theorem Fr.all {ds:List Deferred} {a:Act} (h:Fr ds a n F) {G:Slots} (hG:∀ p∈G,F.lookup p.1=some p.2):Fr ds a n G:=h.less (lookup_all G hG)
theorem all_nil:∀ p∈([]:Slots),F.lookup p.1=some p.2:=λ_ h=>by cases h
theorem all_cons {G:Slots} {i:Nat} {v:Value} (h:F.lookup i=some v) (hG:∀ p∈G,F.lookup p.1=some p.2):∀ p∈(i,v)::G,F.lookup p.1=some p.2:=λp hp=>by
 rcases List.mem_cons.1 hp with rfl | hp
 ·exact h
 ·exact hG p hp
theorem Quiet.thereOne (g f:Nat) (ty:TypeId) (d:TypeDesc) (x:Operand) (ho:o.op=.load ty x) (hx:evF F x=.pointer (some ⟨g,f,none⟩)) (hg:g<w0.world.heap.size) (v:Value) (hr:w0.world.cell? ⟨g,f,none⟩=some v)
  (hu:P.underlying ty=some d) (hd:d.isRow=false):Quiet P w0 F L o v:=λw hw=>by
 have hc:w.cell? ⟨g,f,none⟩=some v:=(Below.cell (p:=⟨g,f,none⟩) hw.below hg).trans hr
 have ha:(isAgg ty).run P w=.ok false w:=by
  cases d <;> first | (cases hd; done) | simp [isAgg,underlying,hu]
 unfold Gives execOp
 simp only [ho,hx,Instr.loadAt,Instr.sureAddr,Sem.run_bind,Sem.run_pure,Result.andThen_ok,loadVar,ha,Bool.false_eq_true,if_false,run_load,hc]
 exact ⟨trivial,Gr.refl _⟩
end
end Sy
end
section
namespace Sy
open Go.RowKit
section
variable {P:Program} {w0:Base} {n:Nat} {Q:Exit→Act→World→Prop} {F:Slots} {L:Blocks} {ops:Array Oper} {o:Oper} {l:List Oper} {ex:Nat→Bool} {fuel:Nat} {listed:Array Bool}
end
end Sy
end
section
namespace Sy
open Go.RowKit
theorem setAll_is:∀ (vs:List Value) (o:Nat) (cs:Array Value),o+vs.length≤cs.size→setAll cs o vs=(cs.toList.take o++(vs++cs.toList.drop (o+vs.length))).toArray
 | [],o,cs,_=>by simp [setAll,List.take_append_drop]
 | v::r,o,cs,h=>by
  simp only [List.length_cons] at h
  rw [setAll,setAll_is r (o+1) _ (by simp; omega)]
  congr 1
  have hlt:o<cs.toList.length:=by simp; omega
  rw [Array.toList_setIfInBounds,List.take_set,List.take_add_one,List.drop_set_of_lt (by omega),List.getElem?_eq_getElem hlt,List.set_append_right _ _ (by simp; omega)]
  have e:o+1+r.length=o+(r.length+1):=by omega
  simp [Nat.min_eq_left (Nat.le_of_lt (show o<cs.size by omega)),e]
section
variable {s:Nat} {f:Nat→List Value}
end
section
variable {s n k:Nat} {A:Nat→List Value} {z:List Value}
end
section
variable {s n m:Nat} {f:Nat→List Value}
end
section
variable {P:Program} {w0:Base} {n:Nat} {Q:Exit→Act→World→Prop} {F:Slots} {L:Blocks} {ops:Array Oper} {o:Oper} {l:List Oper}
theorem blk_range {w:World} {g:Nat} {t:TypeId} {cs:Array Value} (h:Blk w g t cs) {o:Nat} {vs:List Value} (e:(cs.toList.drop o).take vs.length=vs):w.rangeAt g o vs:=λj v hj=>by
 rw [h.cell]
 rw [← e] at hj
 have hlt:j<vs.length:=by
  have h:=(List.getElem?_eq_some_iff.1 hj).1
  rw [List.length_take] at h
  exact Nat.lt_of_lt_of_le h (Nat.min_le_left _ _)
 rw [List.getElem?_take_of_lt hlt,List.getElem?_drop] at hj
 simpa using hj
theorem exec_int (op:BinOp) (t:TypeId) (x y:Operand) {yt:TypeId} (k:IntKind) {k':IntKind} (a b:Int) (v:Value) (ho:o.op=.binOp op t x y yt) (hx:evF F x=.int k a) (hy:evF F y=.int k' b) (h:∀ w,(binOp op t (.int k a) (.int k' b)).run P w=.ok v w) (w:World) :
  (execOp (evF F) o).run P w=.ok (.value v) w:=by
 have h1:(eqGuard op t x y (.int k a) (.int k' b)).run P w=.ok () w:=by
  unfold eqGuard
  cases op <;> rfl
 unfold execOp
 simp only [ho,hx,hy,Sem.run_bind,h1,h w,Result.andThen_ok,Sem.run_pure]
theorem wrap_i64 {z:Int} (h0 : -9223372036854775808≤z) (h1:z<9223372036854775808):IntKind.i64.wrap z=z:=by
 unfold IntKind.wrap; simp [IntKind.bits,IntKind.signed]; omega
theorem wrap_u64 {z:Int} (h0:0≤z) (h1:z<18446744073709551616):IntKind.u64.wrap z=z:=by
 unfold IntKind.wrap; simp [IntKind.bits,IntKind.signed]; omega
theorem int_add (t:TypeId) (k:IntKind) (a b c:Int) (h:k.wrap (a+b)=c) (w:World):(binOp .add t (.int k a) (.int k b)).run P w=.ok (.int k c) w:=by simp [binOp,Op.intArith,h]
theorem int_sub (t:TypeId) (k:IntKind) (a b c:Int) (h:k.wrap (a - b)=c) (w:World):(binOp .sub t (.int k a) (.int k b)).run P w=.ok (.int k c) w:=by simp [binOp,Op.intArith,h]
theorem int_mul (t:TypeId) (k:IntKind) (a b c:Int) (h:k.wrap (a*b)=c) (w:World):(binOp .mul t (.int k a) (.int k b)).run P w=.ok (.int k c) w:=by simp [binOp,Op.intArith,h]
theorem int_lss (t:TypeId) (k:IntKind) (a b:Int) (c:Bool) (h:decide (a<b)=c) (w:World):(binOp .lss t (.int k a) (.int k b)).run P w=.ok (.bool c) w:=by simp [binOp,Op.intCmp, ← h]
theorem int_leq (t:TypeId) (k:IntKind) (a b:Int) (c:Bool) (h:decide (a≤b)=c) (w:World):(binOp .leq t (.int k a) (.int k b)).run P w=.ok (.bool c) w:=by simp [binOp,Op.intCmp, ← h]
theorem int_gtr (t:TypeId) (k:IntKind) (a b:Int) (c:Bool) (h:decide (a>b)=c) (w:World):(binOp .gtr t (.int k a) (.int k b)).run P w=.ok (.bool c) w:=by simp [binOp,Op.intCmp, ← h]
theorem int_geq (t:TypeId) (k:IntKind) (a b:Int) (c:Bool) (h:decide (a ≥ b)=c) (w:World):(binOp .geq t (.int k a) (.int k b)).run P w=.ok (.bool c) w:=by simp [binOp,Op.intCmp, ← h]
theorem int_eql (t:TypeId) (k:IntKind) (a b:Int) (c:Bool) (h:decide (a=b)=c) (w:World):(binOp .eql t (.int k a) (.int k b)).run P w=.ok (.bool c) w:=by
 simp only [binOp,ne_eq,not_true_eq_false,if_false,Op.intCmp,Sem.run_pure, ← h]
 rfl
theorem int_neq (t:TypeId) (k:IntKind) (a b:Int) (c:Bool) (h:decide (a≠b)=c) (w:World):(binOp .neq t (.int k a) (.int k b)).run P w=.ok (.bool c) w:=by
 simp only [binOp,ne_eq,not_true_eq_false,if_false,Op.intCmp,Sem.run_pure, ← h]
 by_cases e:a=b <;> simp [e]
theorem exec_at (t e:TypeId) (x kx:Operand) (g f len cap k s:Nat) (ki:IntKind) (ho:o.op=.indexAddr t x kx) (hx:evF F x=.slice (some ⟨g,f,none⟩) len cap) (hkx:evF F kx=.int ki (k:Int)) (ht:P.underlying t=some (.slice e)) (hsz:∀ w,(sizeOf e).run P w=.ok s w) (hk:k<len) (w:World) :
  (execOp (evF F) o).run P w=.ok (.value (.pointer (some ⟨g,f+k*s,none⟩))) w:=by
 have h0:(0:Int)≤k:=by omega
 have h1:((k:Int).toNat)=k:=by omega
 unfold execOp
 simp [ho,hx,hkx,Instr.indexAt,asIntOf,run_underlying ht,hsz,h0,hk,addr_off,Result.andThen]
theorem exec_atA (t e:TypeId) (x kx:Operand) (g f m k s:Nat) (ki:IntKind) (ho:o.op=.indexAddr t x kx) (hx:evF F x=.pointer (some ⟨g,f,none⟩)) (hkx:evF F kx=.int ki (k:Int)) (ht:P.underlying t=some (.array m e)) (hsz:∀ w,(sizeOf e).run P w=.ok s w) (hk:k<m) (w:World) :
  (execOp (evF F) o).run P w=.ok (.value (.pointer (some ⟨g,f+k*s,none⟩))) w:=by
 have h0:(0:Int)≤k:=by omega
 unfold execOp
 simp [ho,hx,hkx,Instr.indexAt,asIntOf,run_underlying ht,hsz,h0,hk,addr_off,Result.andThen,Instr.sureAddr]
def NextX {T:Type} (w0:Base) (n N:Nat) (FF:Nat→T→Slots) (LL:Nat→T→Blocks) (H:Nat→T→Prop) (k:Nat):Act→World→Prop:=λa w=>k<N∧∃ y,H (k+1) y∧Fr w0.ds a n (FF (k+1) y)∧St w0 w (LL (k+1) y)
end
end Sy
end
section
namespace Sy
open Go.RowKit
section
variable {P:Program} {w0 fz0:World} {n:Nat} {Q:Exit→Act→World→Prop} {F:Slots} {L:Blocks}
def GetsN (w:World) (R:Value→Blocks→Prop) (e:Ending) (w':World):Prop:=∃ v M,e=.returned v∧R v M∧Below w.heap.size w w'∧(∀ g t cs,(g,t,cs)∈M→w.heap.size≤g∧Blk w' g t cs)∧(M.map (·.1)).Nodup
theorem St.addN {w0:Base} {w w':World} {L M:Blocks} (h:St w0 w L) (hg:Gr w w') (hM:∀ g t cs,(g,t,cs)∈M→w.heap.size≤g∧Blk w' g t cs) (hn:(M.map (·.1)).Nodup):St w0 w' (L++M):=by
 have h':=h.gr hg
 refine ⟨h'.below,λg t cs hm=>?_,?_,h'.size,h'.non⟩
 ·rcases List.mem_append.1 hm with hm | hm
  ·exact h'.blk g t cs hm
  ·exact ⟨Nat.le_trans h.below.size (hM g t cs hm).1,(hM g t cs hm).2⟩
 ·rw [List.map_append,List.nodup_append]
  refine ⟨h.apart,hn,λx hx y hy e=>?_⟩
  obtain ⟨⟨g,t,cs⟩,hm,rfl⟩:=List.mem_map.1 hx
  obtain ⟨⟨g',t',cs'⟩,hm',rfl⟩:=List.mem_map.1 hy
  have h1:=(h.blk g t cs hm).2.lt
  have h2:=(hM g' t' cs' hm').1
  have e':g=g':=e
  omega
theorem callND {w0:Base} {ops:Array Oper} {ex:Nat→Bool} {fuel:Nat} {listed:Array Bool} (k:Nat) {oi:Oper} (hi0:ops.toList[k]? = some oi) (hr:Region.ready .any ops listed=[k]) (hg:good ops n F oi=true) (f:FuncId) (args:Array Value)
  (he:∀ w,(execOp (evF F) oi).run P w=.ok (.enter f args) w) (R:Value→Blocks→Prop) (hc:∀ w,St w0 w L→Calls P f args w (GetsN w R)) (h:∀ v M,R v M→wpD P w0 n ops Q ex (putF F oi.dst v) (L++M) fuel (listed.setIfInBounds k true)):wpD P w0 n ops Q ex F L (fuel+1) listed:=λa w ha hw =>
 wpAnyG_sole k hi0 hr (ha.wanted (good_spec hg).1) λw1 h1 K hK=>by
  unfold Oper.wp
  rw [good_exec hg ha,he w1]
  refine Calls.mono (hc w1 (hw.gr h1)) λe w' he'=>?_
  obtain ⟨v,M,rfl,hR,hb,hM,hn⟩:=he'
  exact hK _ _ (λ_=>hb) (h v M hR _ _ (ha.put (good_spec hg).2.2.1 v) ((hw.gr h1).addN hb hM hn))
end
end Sy
end
section
namespace Sy
open Go.RowKit
section
variable {P:Program} {W:World} {m n:Nat} {Q:Exit→Act→World→Prop} {F:Slots} {L:Blocks} {ops:Array Oper} {o:Oper} {rest:List Oper}
end
end Sy
end
section
namespace Sy
open Go.RowKit
section
variable {P:Program} {w0 fz0:World} {n:Nat} {Q:Exit→Act→World→Prop} {F:Slots} {L:Blocks}
end
end Sy
end
section
namespace Sy
open Go.RowKit
section
variable {P:Program} {w0:Base} {n:Nat} {Q:Exit→Act→World→Prop} {F:Slots} {L:Blocks} {ops:Array Oper} {o:Oper} {l:List Oper}
theorem sS (v:Value) (hq:Quiet P w0 F L o v) (h:wpS P w0 n ops Q (putF F o.dst v) L l) (hg:good ops n F o=true:=by kernel_rfl):wpS P w0 n ops Q F L (o::l):=step hg v hq h
theorem sN (h:wpS P w0 n ops Q (putF F o.dst undef) L l) (hg:wantedF ops F o=some false:=by kernel_rfl) (hd:fits n o.dst=true:=by kernel_rfl):wpS P w0 n ops Q F L (o::l):=pass hg hd h
theorem sM (t:TypeId) (cs:Array Value) (h:∀ g,wpS P w0 n ops Q (putF F o.dst (ptr g)) (L++[(g,t,cs)]) l) (hg:good ops n F o=true:=by kernel_rfl) (hm:∀ w,(execOp (evF F) o).run P w=.ok (.value (ptr w.heap.size)) (w.alloc (.cells cs t)):=by intro _; kernel_rfl):wpS P w0 n ops Q F L (o::l):=make hg t cs ptr hm h
variable {ex:Nat→Bool} {fuel:Nat} {listed:Array Bool}
theorem sD (i:Nat) {oi:Oper} (hi0:ops.toList[i]? = some oi) (v:Value) (hq:Quiet P w0 F L oi v) (h:wpD P w0 n ops Q ex (putF F oi.dst v) L fuel (listed.setIfInBounds i true)) (hc:canTake .any ops listed ex i=true:=by kernel_rfl)
  (hg:good ops n F oi=true:=by kernel_rfl) (hQ:∀ c v a w,Q (.panic c) (a.put oi.dst v) w→Q (.panic c) a w:=by exact λ_ _ _ _ h=>h):wpD P w0 n ops Q ex F L (fuel+1) listed:=stepD i hi0 hc hQ hg v hq h
theorem sQ (i:Nat) {oi:Oper} (hi0:ops.toList[i]? = some oi) (h:wpD P w0 n ops Q ex (putF F oi.dst undef) L fuel (listed.setIfInBounds i true)) (hc:canTake .any ops listed ex i=true:=by kernel_rfl)
  (hg:wantedF ops F oi=some false:=by kernel_rfl) (hd:fits n oi.dst=true:=by kernel_rfl) (hQ:∀ c v a w,Q (.panic c) (a.put oi.dst v) w→Q (.panic c) a w:=by exact λ_ _ _ _ h=>h):wpD P w0 n ops Q ex F L (fuel+1) listed:=passD i hi0 hc hQ hg hd h
theorem sE (h:X w0 n Q F L .normal) (hr:Region.ready .any ops listed=[]:=by kernel_rfl):wpD P w0 n ops Q ex F L fuel listed:=doneD hr h
theorem sT {c:Operand} {x y:Code} (h:wpC P w0 n Q F L x) (hi:inF F c=true:=by kernel_rfl) (hc:evF F c=.bool true:=by kernel_rfl):wpC P w0 n Q F L (.cond c x y):=cond_t hi hc h
theorem sU {c:Operand} {x y:Code} (h:wpC P w0 n Q F L y) (hi:inF F c=true:=by kernel_rfl) (hc:evF F c=.bool false:=by kernel_rfl):wpC P w0 n Q F L (.cond c x y):=cond_f hi hc h
theorem sC {i:Nat} {y:Code} (h:wpS P w0 n ops (Exit.then (y.wpIn w0.fence w0.room P Q) Q) F L ops.toList) (hf:w0.fence=Fence.wide:=by rfl):wpC P w0 n Q F L (.seq (.region i ops false) y):=seq (region h hf)
theorem sB {i:Nat} {y:Code} (h:wpS P w0 n ops (Exit.then (y.wpIn w0.fence w0.room P Q) Q) F L ops.toList) (hf:w0.fence=Fence.wide:=by rfl):X w0 n (Exit.then ((Code.seq (.region i ops false) y).wpIn w0.fence w0.room P Q) Q) F L .normal:=then_ (sC h hf)
theorem sA {i:Nat} {y:Code} {ops0:Array Oper} (h:wpS P w0 n ops (Exit.then (y.wpIn w0.fence w0.room P Q) Q) F L ops.toList) (hf:w0.fence=Fence.wide:=by rfl):wpS P w0 n ops0 (Exit.then ((Code.seq (.region i ops false) y).wpIn w0.fence w0.room P Q) Q) F L []:=nil (sB h hf)
theorem sP (v:Value) (h:wpS P w0 n ops Q (putF F o.dst v) L l) (hp:∀ w,(execOp (evF F) o).run P w=.ok (.value v) w:=by intro _; kernel_rfl) (hg:good ops n F o=true:=by kernel_rfl):wpS P w0 n ops Q F L (o::l):=step hg v (Quiet.pure hp) h
theorem sZ (i:Nat) {oi:Oper} (hi0:ops.toList[i]? = some oi) (v:Value) (h:wpD P w0 n ops Q ex (putF F oi.dst v) L fuel (listed.setIfInBounds i true)) (hp:∀ w,(execOp (evF F) oi).run P w=.ok (.value v) w:=by intro _; kernel_rfl) (hc:canTake .any ops listed ex i=true:=by kernel_rfl)
  (hg:good ops n F oi=true:=by kernel_rfl) (hQ:∀ c v a w,Q (.panic c) (a.put oi.dst v) w→Q (.panic c) a w:=by exact λ_ _ _ _ h=>h):wpD P w0 n ops Q ex F L (fuel+1) listed:=stepD i hi0 hc hQ hg v (Quiet.pure hp) h
theorem sG {y:Code} {ops0:Array Oper} (h:wpC P w0 n Q F L y):wpS P w0 n ops0 (Exit.then (y.wpIn w0.fence w0.room P Q) Q) F L []:=nil (then_ h)
def opV (F:Slots):Op→Option Value
 | .move (.tmp t)=>F.lookup t
 | .assign (.tmp t)=>F.lookup t
 | .move (.const v)=>some v
 | .assign (.const v)=>some v
 | .nilCheck (.tmp t)=>match F.lookup t with | some (.pointer (some a))=>some (.pointer (some a)) | _=>none
 | .extract (.tmp t) i=>match F.lookup t with | some (.tuple vs)=>vs[i]? | _=>none
 | _=>none
theorem opV_run {v:Value} (h:opV F o.op=some v) (w:World):(execOp (evF F) o).run P w=.ok (.value v) w:=by
 unfold execOp
 generalize o.op=op at h
 unfold opV at h
 split at h
 ·simp [evF,h]
 ·simp [evF,h]
 ·cases h; simp [evF]
 ·cases h; simp [evF]
 ·split at h
  ·rename_i a e
   cases h
   simp [evF,e]
  ·cases h
 ·split at h
  ·rename_i vs e
   simp [evF,e,Instr.extract,h]
  ·cases h
 ·cases h
theorem sp {v:Value} (hl:opV F o.op=some v) (h:wpS P w0 n ops Q (putF F o.dst v) L l) (hg:good ops n F o=true:=by kernel_rfl):wpS P w0 n ops Q F L (o::l):=step hg v (Quiet.pure (opV_run hl)) h
theorem sz (i:Nat) {oi:Oper} (hi0:ops.toList[i]? = some oi) {v:Value} (hl:opV F oi.op=some v) (h:wpD P w0 n ops Q ex (putF F oi.dst v) L fuel (listed.setIfInBounds i true)) (hc:canTake .any ops listed ex i=true:=by kernel_rfl)
  (hg:good ops n F oi=true:=by kernel_rfl) (hQ:∀ c v a w,Q (.panic c) (a.put oi.dst v) w→Q (.panic c) a w:=by exact λ_ _ _ _ h=>h):wpD P w0 n ops Q ex F L (fuel+1) listed:=stepD i hi0 hc hQ hg v (Quiet.pure (opV_run hl)) h
theorem sI {y:Code} (h:wpC P w0 n Q F L y) (hr:Region.ready .any ops listed=[]:=by kernel_rfl):wpD P w0 n ops (Exit.then (y.wpIn w0.fence w0.room P Q) Q) ex F L fuel listed:=doneD hr (then_ h)
theorem rV {w1:World} {fn:Func} {z:Tmp} (v:Value) (hr:fn.results=#[.tmp z]) (h:F.lookup z=some v:=by kernel_rfl):X (Base.of w1) n (bodyPost P fn (Gets w1 v)) F L .ret:=ret1 hr (.inl h)
end
end Sy
end
section
namespace Sy
open Go.RowKit
section
variable {P:Program} {w0:Base} {n:Nat} {Q:Exit→Act→World→Prop} {F:Slots} {L:Blocks} {ops:Array Oper} {o:Oper} {l:List Oper}
theorem qk {x:Operand} {d:TypeDesc} {v:Value} {g:Nat} {t ty:TypeId} {cs:Array Value} (i f k:Nat) (hL:L[i]? = some (g,t,cs)) (ho:o.op=.load ty x) (hu:P.underlying ty=some d) (hx:evF F x=.pointer (some ⟨g,f,none⟩):=by kernel_rfl)
  (hd:d.isRow=true:=by rfl) (hi:(P.info? ty).map (·.size)=some k:=by kernel_rfl) (hv:Value.agg ((cs.toList.drop f).take k).toArray=v:=by kernel_rfl) (hk:Nat.ble (f+k) cs.size=true:=by kernel_rfl):Quiet P w0 F L o v :=
 Quiet.load i g f k t ty cs d x ho hx hL hu hd hi v hv (Nat.le_of_ble_eq_true hk)
theorem qc {x:Operand} {d:TypeDesc} {v:Value} {g:Nat} {t ty:TypeId} {cs:Array Value} (i f:Nat) (hL:L[i]? = some (g,t,cs)) (ho:o.op=.load ty x) (hu:P.underlying ty=some d) (hx:evF F x=.pointer (some ⟨g,f,none⟩):=by kernel_rfl)
  (hd:d.isRow=false:=by rfl) (hv:cs[f]? = some v:=by kernel_rfl):Quiet P w0 F L o v :=
 Quiet.cell i g f t ty cs d x ho hx hL hu hd v hv
theorem qg {v:Value} {f:FuncId} {args:Array Value} (h:∀ w,St w0 w L→Calls P f args w (Gets w v)) (he:∀ w,(execOp (evF F) o).run P w=.ok (.enter f args) w:=by intro _; kernel_rfl):Quiet P w0 F L o v:=Quiet.callS f args he h
theorem sw {g:Nat} {t:TypeId} {cs:Array Value} (i:Nat) (hL:L[i]? = some (g,t,cs)) (cs':Array Value) (hm:Writes P F o g t cs cs') (h:wpS P w0 n ops Q (putF F o.dst undef) (L.set i (g,t,cs')) l) (hg:good ops n F o=true:=by kernel_rfl):wpS P w0 n ops Q F L (o::l):=write hg i g t cs cs' hL hm h
theorem wA {x y:Operand} {g:Nat} {t ty:TypeId} {cs cells:Array Value} (ho:o.op=.store ty x y) (hx:evF F x=.pointer (some ⟨g,0,none⟩):=by kernel_rfl) (hy:evF F y=.agg cells:=by kernel_rfl)
  (hi:(P.info? ty).map (·.size)=some cells.size:=by kernel_rfl) (hk:Nat.ble (0+cells.size) cs.size=true:=by kernel_rfl) (h1:cells.all (·.oneCell')=true:=by kernel_rfl) (hcs:setAll cs 0 cells.toList=cells:=by kernel_rfl):Writes P F o g t cs cells :=
 Writes.store 0 ty cells x y ho hx hy hi (Nat.le_of_ble_eq_true hk) h1 hcs
variable {ex:Nat→Bool} {fuel:Nat} {listed:Array Bool}
theorem sx {g:Nat} {t:TypeId} {cs:Array Value} (k:Nat) {oi:Oper} (hi0:ops.toList[k]? = some oi) (i:Nat) (hL:L[i]? = some (g,t,cs)) (cs':Array Value) (hm:Writes P F oi g t cs cs') (h:wpD P w0 n ops Q ex (putF F oi.dst undef) (L.set i (g,t,cs')) fuel (listed.setIfInBounds k true))
  (hr:Region.ready .any ops listed=[k]:=by kernel_rfl) (hex:ex k=true:=by rfl) (hg:good ops n F oi=true:=by kernel_rfl):wpD P w0 n ops Q ex F L (fuel+1) listed:=writeD k hi0 hr hex hg i g t cs cs' hL hm h
def Turns (w0:Base) (R:Value→Blocks→Prop) (e:Ending) (w':World):Prop:=∃ v M,e=.returned v∧R v M∧St w0 w' M
theorem callT {f:FuncId} {args:Array Value} {R:Value→Blocks→Prop} (hc:∀ w,St w0 w L→Calls P f args w (Turns w0 R)) (h:∀ v M,R v M→wpS P w0 n ops Q (putF F o.dst v) M l) (he:∀ w,(execOp (evF F) o).run P w=.ok (.enter f args) w:=by intro _; kernel_rfl) (hg:good ops n F o=true:=by kernel_rfl):wpS P w0 n ops Q F L (o::l):=λa w ha hw=>by
 obtain ⟨g1,_,g3,_⟩:=good_spec hg
 refine wpList_step λK hK=>?_
 rw [if_pos (ha.wanted g1)]
 unfold Oper.wp
 rw [good_exec hg ha,he w]
 refine Calls.mono (hc w hw) λe w' he'=>?_
 obtain ⟨v,M,rfl,hR,hM⟩:=he'
 exact hK _ _ (h v M hR _ _ (ha.put g3 v) hM)
abbrev Base.inn (w0:Base):Base:=⟨w0.world,w0.fz,[],Fence.wide,9⟩
theorem St.inn {w:World} (h:St w0 w L):St w0.inn w L:=⟨h.below,h.blk,h.apart,h.size,h.non⟩
theorem St.out {w:World} (h:St w0.inn w L):St w0 w L:=⟨h.below,h.blk,h.apart,h.size,h.non⟩
theorem enterT {f:FuncId} {fn:Func} {c:Code} {args:List Value} {w:World} {R:Ending→World→Prop} (hw:St w0 w L) (hf:P.funcs[f]? = some fn) (hb:fn.body=some c) (hn:args.length≤fn.ntmps)
  (h:wpC P w0.inn fn.ntmps (bodyPost P fn R) (slotsOf 0 args) L c):Calls P f args.toArray w R :=
 calls_of_wp hf hb (wpIn_wide.1 (h _ _ ⟨rfl,by simp; omega,λi v hi=>by
  have:=(lookup_slotsOf args 0 i v hi).2
  rw [Nat.sub_zero] at this
  have hl:=(List.getElem?_eq_some_iff.1 this).1
  rw [Array.getElem?_append_left (by simpa using hl)]
  simpa using this⟩ hw.inn))
theorem retT0 {fn:Func} {R:Value→Blocks→Prop} (hr:fn.results=#[]) (M:Blocks) (hM:∀ w,St w0 w L→St w0 w M) (h:∀ v,R v M) {e:Exit} (he:e=.ret∨e=.normal:=by first | exact .inl rfl | exact .inr rfl):X w0.inn n (bodyPost P fn (Turns w0 R)) F L e:=λa w ha hw=>by
 have hx:a.defers=[]∧∃ v,(results fn a.tmps).run P w=.ok v w∧Turns w0 R (.returned v) w:=⟨ha.1,_,results_none hr _ _ _,_,M,rfl,h _,hM w hw.out⟩
 rcases he with rfl | rfl <;> exact hx
theorem retT1 {fn:Func} {r:ResultVar} {v:Value} {R:Value→Blocks→Prop} (M:Blocks) (hr:fn.results=#[r]) (h:Has P F L r v) (hM:∀ w,St w0 w L→St w0 w M) (hR:R v M):X w0.inn n (bodyPost P fn (Turns w0 R)) F L .ret:=λa w ha hw=>by
 refine bodyPost_ret (v:=v) ?_ ha.1 ⟨v,M,rfl,hR,hM w hw.out⟩
 rcases Res.run h ha hw with ⟨t,rfl,e1⟩ | ⟨t,ty,ad,rfl,e1,e2⟩ <;> simp [results,Result.andThen, *]
theorem retT2 {fn:Func} {r s:ResultVar} {v u:Value} {R:Value→Blocks→Prop} (M:Blocks) (hr:fn.results=#[r,s]) (h:Has P F L r v) (k:Has P F L s u) (hM:∀ w,St w0 w L→St w0 w M) (hR:R (.tuple #[v,u]) M):X w0.inn n (bodyPost P fn (Turns w0 R)) F L .ret:=λa w ha hw=>by
 refine bodyPost_ret (v:=.tuple #[v,u]) ?_ ha.1 ⟨_,M,rfl,hR,hM w hw.out⟩
 rcases Res.run h ha hw with ⟨t,rfl,e1⟩ | ⟨t,ty,ad,rfl,e1,e2⟩ <;> rcases Res.run k ha hw with ⟨t',rfl,f1⟩ | ⟨t',ty',ad',rfl,f1,f2⟩ <;> simp [results,Result.andThen, *]
end
end Sy
end
section
namespace Sy
open Go.RowKit
section
variable {P:Program} {w0:Base} {n:Nat} {Q:Exit→Act→World→Prop} {F:Slots} {L:Blocks} {ops:Array Oper} {ex:Nat→Bool} {fuel:Nat} {listed:Array Bool}
def wpO (P:Program) (w0:Base) (n:Nat) (ops:Array Oper) (Q:Exit→Act→World→Prop) (ex:Nat→Bool) (F:Slots) (L:Blocks) (fuel:Nat) (listed:Array Bool) (i:Nat):Prop :=
 ∃ oi,ops[i]? = some oi∧wantedF ops F oi=some true∧∀ a w,Fr w0.ds a n F→St w0 w L→∀ w1,Gr w w1→∀ K:Act→World→Prop,(∀ a' w',(ex i=false→Gr w1 w')→wpAnyG P .any ops Q ex fuel (listed.setIfInBounds i true) a' w'→K a' w')→oi.wp P a w1 K Q
theorem anyOf (l:List Nat) (hr:Region.ready .any ops listed=l) (hl:l≠[]) (h:∀ i∈l,wpO P w0 n ops Q ex F L fuel listed i):wpD P w0 n ops Q ex F L (fuel+1) listed:=λa w ha hw w1 hw1 =>
 ⟨λh0=>(hl (hr.symm.trans h0)).elim,λm hm=>by
  rw [hr] at hm
  obtain ⟨oi,ho,hg,hk⟩:=h m hm
  refine wpOp_step ho (λK' hK=>?_)
  rw [if_pos (ha.wanted hg)]
  exact hk a w ha hw w1 hw1 K' (λa' w' h1 h2=>hK a' w' ⟨h1,h2⟩)⟩
theorem each2 {p:Nat→Prop} {i j:Nat} (hi:p i) (hj:p j):∀ k∈[i,j],p k:=λk hk=>by
 simp only [List.mem_cons,List.not_mem_nil,or_false] at hk
 rcases hk with rfl | rfl <;> assumption
theorem oneQuiet {i:Nat} {oi:Oper} (hi0:ops.toList[i]? = some oi) (hg:good ops n F oi=true) (v:Value) (hq:Quiet P w0 F L oi v) (h:wpD P w0 n ops Q ex (putF F oi.dst v) L fuel (listed.setIfInBounds i true)):wpO P w0 n ops Q ex F L fuel listed i :=
 ⟨oi,by simpa using hi0,(good_spec hg).1,λa w ha hw w1 h1 K hK=>by
  have hw1:=hw.gr h1
  have h0:=hq w1 hw1
  unfold Gives at h0
  unfold Oper.wp
  rw [good_exec hg ha]
  have last:∀ w2,Gr w1 w2→wpAnyG P .any ops Q ex fuel (listed.setIfInBounds i true) (a.put oi.dst v) w2:=λw2 h2=>h _ _ (ha.put (good_spec hg).2.2.1 v) (hw1.gr h2)
  generalize (execOp (evF F) oi).run P w1=r at *
  cases r with
  | ok x w' =>
   cases x <;> simp only [Oper.upon] at h0 ⊢
   case value u=>rw [h0.1]; exact hK _ _ (λ_=>h0.2) (last _ h0.2)
   case skip=>rw [← h0.1]; exact hK _ _ (λ_=>h0.2) (last _ h0.2)
   case enter f args =>
    refine Calls.mono h0 λe w'' he=>?_
    rw [he.1]
    exact hK _ _ (λ_=>he.2) (last _ he.2)
  | halt x w'=>cases x <;> exact h0.elim⟩
theorem oneMake {i:Nat} {oi:Oper} (hi0:ops.toList[i]? = some oi) (hg:good ops n F oi=true) (t:TypeId) (cs:Array Value) (val:Nat→Value) (hm:Makes P F oi t cs val) (h:∀ g,wpD P w0 n ops Q ex (putF F oi.dst (val g)) (L++[(g,t,cs)]) fuel (listed.setIfInBounds i true)):wpO P w0 n ops Q ex F L fuel listed i :=
 ⟨oi,by simpa using hi0,(good_spec hg).1,λa w ha hw w1 h1 K hK=>by
  unfold Oper.wp
  rw [good_exec hg ha,hm w1]
  exact hK _ _ (λ_=>gr_alloc w1 _) (h w1.heap.size _ _ (ha.put (good_spec hg).2.2.1 _) ((hw.gr h1).add (gr_alloc w1 _) (Nat.le_refl _) (Blk.new w1 t cs)))⟩
end
end Sy
end
section
namespace Sy
open Go.RowKit
theorem St.perm {w0:Base} {w:World} {L M:Blocks} (h:St w0 w L) (p:L.Perm M):St w0 w M :=
 ⟨h.below,λg t cs hm=>h.blk g t cs (p.mem_iff.2 hm),(p.map _).nodup_iff.1 h.apart,h.size,h.non⟩
theorem perm_at {α:Type _} {l m:List α} (is:List Nat) (hi:is.isPerm (List.range l.length)=true) (hm:is.map (λi=>l[i]?)=m.map some):l.Perm m:=by
 have h1:(is.map (λi=>l[i]?)).Perm ((List.range l.length).map (λi=>l[i]?)):=(List.isPerm_iff.1 hi).map _
 have h2:(List.range l.length).map (λi=>l[i]?)=l.map some:=by
  refine List.ext_getElem (by simp) λi h _=>?_
  simp only [List.getElem_map,List.getElem_range]
  exact List.getElem?_eq_getElem (by simpa using h)
 rw [hm,h2] at h1
 have h3:=h1.filterMap id
 simpa [List.filterMap_map] using h3.symm
section
variable {P:Program} {w0:Base} {n:Nat} {Q:Exit→Act→World→Prop} {F:Slots} {L:Blocks} {ops:Array Oper} {ex:Nat→Bool} {fuel:Nat} {listed:Array Bool}
theorem oneCallN {i:Nat} {oi:Oper} (hi0:ops.toList[i]? = some oi) (hg:good ops n F oi=true) (f:FuncId) (args:Array Value) (he:∀ w,(execOp (evF F) oi).run P w=.ok (.enter f args) w) (R:Value→Blocks→Prop)
  (hc:∀ w,St w0 w L→Calls P f args w (GetsN w R)) (h:∀ v M,R v M→wpD P w0 n ops Q ex (putF F oi.dst v) (L++M) fuel (listed.setIfInBounds i true)):wpO P w0 n ops Q ex F L fuel listed i :=
 ⟨oi,by simpa using hi0,(good_spec hg).1,λa w ha hw w1 h1 K hK=>by
  unfold Oper.wp
  rw [good_exec hg ha,he w1]
  refine Calls.mono (hc w1 (hw.gr h1)) λe w' he'=>?_
  obtain ⟨v,M,rfl,hR,hb,hM,hn⟩:=he'
  exact hK _ _ (λ_=>hb) (h v M hR _ _ (ha.put (good_spec hg).2.2.1 v) ((hw.gr h1).addN hb hM hn))⟩
theorem joinG {T:Type} (FF:T→Slots) (LL:T→Blocks) (H:T→Prop) (fu:Nat) (li:Array Bool) {fuel':Nat} (h:∀ x,H x→wpD P w0 n ops Q ex (FF x) (LL x) fu li) (k:(∀ x,H x→wpD P w0 n ops Q ex (FF x) (LL x) fu li)→wpD P w0 n ops Q ex F L fuel' listed):wpD P w0 n ops Q ex F L fuel' listed:=k h
end
end Sy
end
section
namespace Sy
open Go.RowKit
section
variable {P:Program} {w0 fz0:World} {n:Nat} {Q:Exit→Act→World→Prop} {F:Slots} {L:Blocks}
variable {ops:Array Oper} {o:Oper} {rest:List Oper}
end
end Sy
end
section
namespace Sy
open Go.RowKit
section
variable {P:Program} {w0:Base} {n:Nat} {Q:Exit→Act→World→Prop} {F:Slots} {L:Blocks} {ops:Array Oper} {o:Oper} {l:List Oper}
def From (w0:Base) (L:Blocks) (A:Option Addr) (news:List Value):Prop:=∀ w,St w0 w L→(news=[]∨∃ a,A=some a∧∀ j u,news[j]? = some u→w.cell? (a.add j)=some u)
theorem From.blk {i g f:Nat} {t:TypeId} {cs:Array Value} {news:List Value} (hL:L[i]? = some (g,t,cs)) (hn:(cs.toList.drop f).take news.length=news):From w0 L (some ⟨g,f,none⟩) news:=λw hw =>
 .inr ⟨_,rfl,λj u hj=>by
  rw [addr_off]
  exact blk_range (hw.get hL) hn j u hj⟩
theorem appendG (hg:good ops n F o=true) (ts e:TypeId) (inf:TypeInfo) (z:Value) (sz by_:Nat) (ht:P.underlying ts=some (.slice e)) (hinf:P.info? e=some inf) (hz:inf.zero=some z) (hs1:inf.size=sz) (hb1:inf.bytes=by_) (hzs:z.cells.size=sz) (h0:0<sz)
  (s x:Operand) (ho:o.op=.call { callee:=.builtin .append,args:=#[s,x],argTypes:=#[ts,ts] })
  (i g len cap:Nat) (old sp:List Value) (hs:evF F s=.slice (some ⟨g,0,none⟩) len cap) (hL:L[i]? = some (g,e,(old++sp).toArray)) (hlen:old.length=len*sz) (hsp:sp.length+len*sz=cap*sz) (hmax:cap≤maxLen)
  (A:Option Addr) (m c:Nat) (news:List Value) (hx:evF F x=.slice A m c) (hf:From w0 L A news) (hm:news.length=m*sz) (hmc:m≤c) (h1:∀ u∈news,u.oneCell'=true) (hsmall:(len+m)*by_≤140737488355328) (h63:len+m≤maxLen)
  (h:∀ (g' cap':Nat) (sp':List Value),sp'.length+(len+m)*sz=cap'*sz→len+m≤cap'→cap'≤maxLen→wpS P w0 n ops Q (putF F o.dst (.slice (some ⟨g',0,none⟩) (len+m) cap')) (L.set i (g',e,(old++news++sp').toArray)) l):wpS P w0 n ops Q F L (o::l):=λa w ha hw=>by
 obtain ⟨k1,_,k3,_⟩:=good_spec hg
 refine wpList_step λK hK=>?_
 rw [if_pos (ha.wanted k1)]
 have hb:=hw.get hL
 have hle:len≤cap:=Nat.le_of_mul_le_mul_right (by omega) h0
 have step:∀ v' w',(Builtin.append_ #[ts,ts] o.type #[.slice (some ⟨g,0,none⟩) len cap,.slice A m c]).run P w=.ok v' w'→K (a.put o.dst v') w'→o.wp P a w K Q:=λv' w' hr hk=>by
  unfold Oper.wp
  rw [good_exec hg ha]
  unfold execOp
  simp only [ho,resolve,invoke,builtin,Sem.run_bind,Sem.run_pure,Result.andThen_ok,List.map_toArray,List.map_cons,List.map_nil,hs,hx,hr]
  exact hk
 rcases hf w hw with rfl | ⟨ad,rfl,hn⟩
 ·have hm0:m=0:=by
   rcases Nat.eq_zero_or_pos m with h | h
   ·exact h
   ·have:=Nat.mul_pos h h0
    simp at hm
    omega
  subst hm0
  have hr:(Builtin.append_ #[ts,ts] o.type #[.slice (some ⟨g,0,none⟩) len cap,.slice A 0 c]).run P w=.ok (.slice (some ⟨g,0,none⟩) len cap) w:=by
   have hfc:(Builtin.firstCells inf.size 0 (.slice A 0 c)).run P w=.ok #[] w:=by
    cases A with
    | none=>simp [Builtin.firstCells,Sem.run_pure]
    | some a=>simpa using run_firstCells_some (P:=P) w inf.size 0 a 0 c [] (by simp) (λj u hj=>by cases hj)
   have hst:∀ a:Addr,(storeCells a []).run P w=.ok () w:=λa=>by simp [storeCells,Sem.run_pure]
   simp [Builtin.append_,run_underlying ht,sizeOf,typeInfo,hinf,hle,Builtin.lenOf,hfc,hst]
  refine step _ w hr ?_
  have hset:L.set i (g,e,(old++[]++sp).toArray)=L:=by
   rw [List.append_nil]
   refine List.ext_getElem? λj=>?_
   rw [List.getElem?_set]
   by_cases e':i=j
   ·subst e'
    rw [if_pos rfl,if_pos (List.getElem?_eq_some_iff.1 hL).1,hL]
   ·rw [if_neg e']
  refine hK _ _ (h g cap sp (by simpa using hsp) (by omega) hmax _ _ (ha.put k3 _) ?_)
  rw [hset]
  exact hw
 ·have hown:w.ownsRow 0 e sz (.slice (some ⟨g,0,none⟩) len cap) len old:=⟨hlen,.inr ⟨g,cap,_,rfl,Nat.zero_le _,hb,hle,hmax,by rw [List.size_toArray,List.length_append]; omega,by show (old++sp).take _=old; rw [List.take_left' hlen]⟩⟩
  have last:∀ (w':World) (g' cap':Nat) (cur:Array Value),cur.size=cap'*sz→len+m≤cap'→cap'≤maxLen→cur.toList.take ((len+m)*sz)=old++news→St w0 w' (L.set i (g',e,cur))→K (a.put o.dst (.slice (some ⟨g',0,none⟩) (len+m) cap')) w':=λw' g' cap' cur h2 h2' h3 h4 h5=>by
   have hc:cur=(old++news++cur.toList.drop ((len+m)*sz)).toArray:=by
    rw [← h4,List.take_append_drop]
   rw [hc] at h5
   refine hK _ _ (h g' cap' _ ?_ h2' h3 _ _ (ha.put k3 _) h5)
   have h6:=Nat.mul_le_mul_right sz h2'
   rw [List.length_drop,Array.length_toList,h2]
   omega
  rcases Nat.lt_or_ge cap (len+m) with hlt | hge
  ·obtain ⟨v',w',hr,hrow,hgr⟩:=run_append_arg_grows (P:=P) w ts o.type e inf z sz by_ ht hinf hz hs1 hb1 hzs h0 ⟨g,0,none⟩ len cap old hlen (hown.cells (g:=g) rfl) ad m c news hm hn hlt h63 hsmall
   refine step v' w' hr ?_
   rcases hrow.2 with ⟨rfl,h0'⟩ | ⟨g',cap',cur,rfl,q1,q2,q3,q4,q5,q6⟩
   ·omega
   ·exact last w' g' cap' cur q5 q3 q4 q6 (hw.setNew (⟨hgr.os,hgr.tape,hgr.output,hgr.size,λk hk=>hgr.block k hk (by simp)⟩) (List.getElem?_eq_some_iff.1 hL).1 q1 q2)
  ·obtain ⟨w',hr,hrow,hgr⟩:=run_append_own_spare (P:=P) w 0 ts o.type e inf sz ht hinf hs1 g len cap old hown ad m c news hm hn h1 hge
   refine step _ w' hr ?_
   rcases hrow.2 with ⟨h0',_⟩ | ⟨g',cap',cur,hv,_,q2,q3,q4,q5,q6⟩
   ·cases h0'
   ·cases hv
    exact last w' g cap cur q5 q3 q4 q6 (hw.set hL hgr q2)
theorem appendGNil (hg:good ops n F o=true) (ts e:TypeId) (inf:TypeInfo) (z:Value) (sz by_:Nat) (ht:P.underlying ts=some (.slice e)) (hinf:P.info? e=some inf) (hz:inf.zero=some z) (hs1:inf.size=sz) (hb1:inf.bytes=by_) (hzs:z.cells.size=sz) (h0:0<sz)
  (s x:Operand) (ho:o.op=.call { callee:=.builtin .append,args:=#[s,x],argTypes:=#[ts,ts] }) (hs:evF F s=.slice none 0 0)
  (A:Option Addr) (m c:Nat) (news:List Value) (hx:evF F x=.slice A m c) (hf:From w0 L A news) (hm:news.length=m*sz) (hm0:0<m) (h1:∀ u∈news,u.oneCell'=true) (hsmall:m*by_≤140737488355328) (h63:m≤maxLen)
  (h:∀ (g' cap':Nat) (sp':List Value),sp'.length+m*sz=cap'*sz→m≤cap'→cap'≤maxLen→wpS P w0 n ops Q (putF F o.dst (.slice (some ⟨g',0,none⟩) m cap')) (L++[(g',e,(news++sp').toArray)]) l):wpS P w0 n ops Q F L (o::l):=λa w ha hw=>by
 obtain ⟨k1,_,k3,_⟩:=good_spec hg
 refine wpList_step λK hK=>?_
 rw [if_pos (ha.wanted k1)]
 rcases hf w hw with rfl | ⟨ad,rfl,hn⟩
 ·have:=Nat.mul_pos hm0 h0
  simp at hm
  omega
 obtain ⟨v',w',hr,hrow,hgr,hnil⟩:=run_append_own (P:=P) w w.heap.size ts o.type e inf z sz by_ ht hinf hz hs1 hb1 hzs h0 (.slice none 0 0) 0 [] (World.ownsRow_nil w _ e sz) ad m c news hm hn h1 (by omega) (by rw [Nat.zero_add]; exact hsmall) (Nat.le_refl _)
 rcases hrow.2 with ⟨_,h0'⟩ | ⟨g',cap',cur,rfl,q1,q2,q3,q4,q5,q6⟩
 ·omega
 have q6':cur.toList.take (m*sz)=news:=by simpa using q6
 unfold Oper.wp
 rw [good_exec hg ha]
 unfold execOp
 simp only [ho,resolve,invoke,builtin,Sem.run_bind,Sem.run_pure,Result.andThen_ok,List.map_toArray,List.map_cons,List.map_nil,hs,hx,hr]
 have hc:cur=(news++cur.toList.drop (m*sz)).toArray:=by rw [← q6',List.take_append_drop]
 rw [hc] at q2
 rw [Nat.zero_add] at q3 ⊢
 refine hK _ _ (h g' cap' _ ?_ q3 q4 _ _ (ha.put k3 _) (hw.add (⟨hgr.os,hgr.tape,hgr.output,hgr.size,λk hk=>hgr.block k hk (by simp [Value.ownBlock])⟩) q1 q2))
 have h6:=Nat.mul_le_mul_right sz q3
 rw [List.length_drop,Array.length_toList,q5]
 omega
theorem permS {M:Blocks} (p:L.Perm M) (h:wpS P w0 n ops Q F M l):wpS P w0 n ops Q F L l:=λa w ha hw=>h a w ha (hw.perm p)
end
end Sy
end
section
namespace Ec
variable {n:Nat} [NeZero n]
variable {inv:Fin n→Fin n}
end Ec
end
section
namespace Ec
variable {n:Nat} [NeZero n] {inv:Fin n→Fin n}
end Ec
end
section
section
open Go.RowKit Go.Lib
namespace M64
end M64
end
end
section
section
open Go.RowKit Go.Lib
end
end
section
section
open Go.RowKit Go.Lib
end
end
section
section
open Go.RowKit Go.Lib
end
end
section
section
open Go.RowKit Go.Lib
end
end
section
namespace Nt
end Nt
end
section
section
open Go.RowKit Go.Lib
end
end
section
section
open Go.RowKit Go.Lib
end
end
section
section
open Go.RowKit Go.Lib
end
end
section
section
open Go.RowKit Go.Lib
end
end
section
section
open Go.RowKit Go.Lib
end
end
section
namespace Cu
open Go.RowKit Sy
end Cu
end
section
namespace Nm
open Go.RowKit Go.Lib
end Nm
end
section
namespace Cu
open Go.RowKit Sy
end Cu
end
section
namespace Cu
open Go.RowKit
end Cu
end
section
namespace Cu
open Go.RowKit Sy
set_option maxRecDepth 100000
set_option maxHeartbeats 4000000
end Cu
end
section
namespace Cu
open Go.RowKit Sy
set_option maxRecDepth 100000
set_option maxHeartbeats 4000000
end Cu
end
section
section
open Go.RowKit Go.Lib
end
end
section
section
open Go.RowKit Go.Lib
end
end
section
namespace Fz
open Go.RowKit Go.Lib Sy
end Fz
end
section
namespace Fz
open Go.RowKit Go.Lib Sy
end Fz
end
section
section
open Go.RowKit Go.Lib
end
end
section
section
open Go.RowKit Go.Lib
section
variable {P:Program} {ops:Array Oper}
end
end
end
section
namespace Fz
open Go.RowKit Go.Lib Sy
end Fz
end
section
section
open Go.RowKit Go.Lib
end
end
section
namespace Fz
open Go.RowKit Go.Lib Sy
end Fz
end
section
section
open Go.RowKit Go.Lib
end
end
section
section
open Go.RowKit Go.Lib
end
end
section
section
open Go.RowKit Sp
end
end
section
section
open Go.RowKit Go.Lib
end
end
section
namespace Cu
open Go.RowKit Sy
set_option maxRecDepth 100000
set_option maxHeartbeats 4000000
end Cu
end
section
namespace Cu
open Go.RowKit Sy
end Cu
end
section
section
open Go.RowKit Go.Lib
end
end
section
section
open Go.RowKit Go.Lib
end
end
section
section
open Go.RowKit Go.Lib
end
end
section
section
open Go.RowKit Go.Lib
end
end
section
namespace Cu
open Go.RowKit Sy
set_option maxRecDepth 100000
set_option maxHeartbeats 4000000
noncomputable def infU8:TypeInfo:=(Tryz.prog.info? 5).getD default
theorem info_u8:Tryz.prog.info? 5=some infU8:=by kernel_rfl
end Cu
end
section
namespace Cu
open Go.RowKit Sy
end Cu
end
section
namespace Cu
open Go.RowKit Sy
set_option maxRecDepth 100000
set_option maxHeartbeats 4000000
end Cu
end
section
namespace Cu
open Go.RowKit Sy
set_option maxRecDepth 100000
set_option maxHeartbeats 4000000
end Cu
end
section
namespace Cu
open Go.RowKit Sy
theorem setAll_all:∀ (vs:List Value) (o:Nat) (cs:Array Value),o+vs.length=cs.size→setAll cs o vs=(cs.toList.take o++vs).toArray
 | [],o,cs,h=>by
  rw [List.append_nil,List.take_of_length_le (by simp at h ⊢; omega)]
  simp [setAll]
 | v::r,o,cs,h=>by
  have hlt:o<cs.size:=by simp at h; omega
  rw [setAll,setAll_all r (o+1) _ (by simp at h ⊢; omega)]
  congr 1
  rw [Array.toList_setIfInBounds,List.take_set,List.take_succ_eq_append_getElem (by simpa using hlt),List.set_append_right _ _ (by rw [List.length_take]; exact Nat.min_le_left _ _)]
  have:(cs.toList.take o).length=o:=by simp; omega
  simp [this]
end Cu
end
section
namespace Sy
open Go.RowKit
section
variable {P:Program} {w0:Base} {n:Nat} {F:Slots} {L:Blocks} {o:Oper}
theorem Writes.row {g:Nat} {t:TypeId} {cs:Array Value} (ty:TypeId) (c:List Value) (m:Nat) (x y:Operand) (ho:o.op=.store ty x y) (hx:evF F x=.pointer (some ⟨g,0,none⟩)) (hy:evF F y=.agg c.toArray) (hi:(P.info? ty).map (·.size)=some m) (hc:c.length=m) (hs:cs.size=m) (h1:∀ u∈c,u.oneCell'=true):Writes P F o g t cs c.toArray :=
 Writes.store 0 ty c.toArray x y ho hx hy (by rw [hi,List.size_toArray,hc]) (by rw [List.size_toArray,hc,hs,Nat.zero_add]; exact Nat.le_refl _) (by rw [List.all_toArray,List.all_eq_true]; exact h1) (by
  have:=Cu.setAll_all c 0 cs (by omega)
  simpa using this)
end
end Sy
end
section
namespace Sy
open Go.RowKit
structure Slc where
 v:Value
 bl:Blocks
structure Slc.Is (r:Slc) (e:TypeId) (sz:Nat) (xs:List (List Value)):Prop where
 len:∀ x∈xs,x.length=sz
 one:∀ x∈xs, ∀ u∈x,u.oneCell'=true
 row:(xs=[]∧r=⟨.slice none 0 0,[]⟩)∨∃ g cap sp,r=⟨.slice (some ⟨g,0,none⟩) xs.length cap,[(g,e,(xs.flatten++sp).toArray)]⟩∧sp.length+xs.length*sz=cap*sz∧xs.length≤cap∧cap≤maxLen
theorem Slc.Is.nil (e:TypeId) (sz:Nat):Slc.Is ⟨.slice none 0 0,[]⟩ e sz []:=⟨λ_ h=>(by cases h),λ_ h=>(by cases h),.inl ⟨rfl,rfl⟩⟩
theorem flat_len' {sz:Nat}:∀ {xs:List (List Value)},(∀ x∈xs,x.length=sz)→xs.flatten.length=xs.length*sz
 | [],_=>by simp
 | x::xs,h=>by
  rw [List.flatten_cons,List.length_append,h x (List.mem_cons_self ..),flat_len' λy hy=>h y (List.mem_cons_of_mem _ hy),List.length_cons,Nat.add_mul,Nat.one_mul,Nat.add_comm]
theorem flat_at' {sz:Nat}:∀ {xs:List (List Value)} (sp:List Value),(∀ x∈xs,x.length=sz)→∀ (j:Nat) (x:List Value),xs[j]? = some x→((xs.flatten++sp).drop (j*sz)).take sz=x
 | [],_,_,_,_,h=>by simp at h
 | y::xs,sp,h,0,x,hx=>by
  have hy:=h y (List.mem_cons_self ..)
  simp only [List.getElem?_cons_zero,Option.some.injEq] at hx
  subst hx
  rw [Nat.zero_mul,List.drop_zero,List.flatten_cons,List.append_assoc,List.take_append_of_le_length (by omega),List.take_of_length_le (by omega)]
 | y::xs,sp,h,j+1,x,hx=>by
  have hy:=h y (List.mem_cons_self ..)
  rw [List.getElem?_cons_succ] at hx
  have ih:=flat_at' sp (λz hz=>h z (List.mem_cons_of_mem _ hz)) j x hx
  rw [List.flatten_cons,List.append_assoc,List.drop_append,hy,List.drop_of_length_le (by rw [hy,Nat.add_mul,Nat.one_mul]; omega),List.nil_append,Nat.add_mul,Nat.one_mul,Nat.add_sub_cancel]
  exact ih
section
variable {P:Program} {w0:Base} {n:Nat} {Q:Exit→Act→World→Prop} {F:Slots} {pre T:Blocks} {ops:Array Oper} {o:Oper} {l:List Oper}
theorem Quiet.lenR {L:Blocks} {r:Slc} {e t:TypeId} {sz m:Nat} {xs:List (List Value)} (hr:r.Is e sz xs) (hm:xs.length=m) (x:Operand) {e':TypeId} (ht:P.underlying t=some (.slice e')) (ho:o.op=.call { callee:=.builtin .len,args:=#[x],argTypes:=#[t] }) (hx:evF F x=r.v):Quiet P w0 F L o (.int .i64 (m:Int)):=Quiet.pure λw=>by
 subst hm
 rcases hr.row with ⟨rfl,rfl⟩ | ⟨g,cap,sp,rfl,_⟩ <;>
 ·unfold execOp
  simp only [ho,resolve,invoke,builtin,Sem.run_bind,Sem.run_pure,Result.andThen_ok,List.map_toArray,List.map_cons,List.map_nil,hx]
  simp [Builtin.len_,run_underlying ht,goInt,Result.andThen]
theorem appendR (hg:good ops n F o=true) (ts e:TypeId) (inf:TypeInfo) (z:Value) (sz by_:Nat) (ht:P.underlying ts=some (.slice e)) (hinf:P.info? e=some inf) (hz:inf.zero=some z) (hs1:inf.size=sz) (hb1:inf.bytes=by_) (hzs:z.cells.size=sz) (h0:0<sz)
  (s x:Operand) (ho:o.op=.call { callee:=.builtin .append,args:=#[s,x],argTypes:=#[ts,ts] })
  {r:Slc} {xs:List (List Value)} (hr:r.Is e sz xs) (hs:evF F s=r.v) (y:List Value) (hy:y.length=sz) (hy1:∀ u∈y,u.oneCell'=true)
  (j gx:Nat) (tx:TypeId) (hx:evF F x=.slice (some ⟨gx,0,none⟩) 1 1) (hLx:(pre++(r.bl++T))[j]? = some (gx,tx,y.toArray)) (hsmall:(xs.length+1)*by_≤140737488355328) (h63:xs.length+1≤maxLen)
  (h:∀ r':Slc,r'.Is e sz (xs++[y])→wpS P w0 n ops Q (putF F o.dst r'.v) (pre++(r'.bl++T)) l):wpS P w0 n ops Q F (pre++(r.bl++T)) (o::l):=by
 have hfrom:From w0 (pre++(r.bl++T)) (some ⟨gx,0,none⟩) y:=From.blk hLx (by simp)
 have hlen:∀ u∈xs++[y],u.length=sz:=λu hu=>by
  rcases List.mem_append.1 hu with hu | hu
  ·exact hr.len u hu
  ·rw [List.mem_singleton.1 hu]; exact hy
 have hone:∀ u∈xs++[y], ∀ v∈u,v.oneCell'=true:=λu hu=>by
  rcases List.mem_append.1 hu with hu | hu
  ·exact hr.one u hu
  ·rw [List.mem_singleton.1 hu]; exact hy1
 rcases hr.row with ⟨rfl,rfl⟩ | ⟨g,cap,sp,rfl,q1,q2,q3⟩
 ·refine appendGNil hg ts e inf z sz by_ ht hinf hz hs1 hb1 hzs h0 s x ho hs (some ⟨gx,0,none⟩) 1 1 y hx hfrom (by omega) (by decide) hy1 (by simpa using hsmall) (by simpa using h63) (λg' cap' sp' h1 h2 h3=>?_)
  have hq:=h ⟨.slice (some ⟨g',0,none⟩) 1 cap',[(g',e,(y++sp').toArray)]⟩ ⟨hlen,hone,.inr ⟨g',cap',sp',by simp,by simpa using h1,by simpa using h2,h3⟩⟩
  exact permS (by
   rw [List.nil_append,List.append_assoc]
   exact (List.perm_append_comm (l₁:=T) (l₂:=[(g',e,(y++sp').toArray)])).append_left pre) hq
 ·have hi:(pre++([(g,e,(xs.flatten++sp).toArray)]++T))[pre.length]? = some (g,e,(xs.flatten++sp).toArray):=by
   rw [List.getElem?_append_right (Nat.le_refl _),Nat.sub_self]
   rfl
  refine appendG hg ts e inf z sz by_ ht hinf hz hs1 hb1 hzs h0 s x ho pre.length g xs.length cap xs.flatten sp hs hi (flat_len' hr.len) q1 q3 (some ⟨gx,0,none⟩) 1 1 y hx hfrom (by omega) (Nat.le_refl _) hy1 hsmall h63 (λg' cap' sp' h1 h2 h3=>?_)
  have hq:=h ⟨.slice (some ⟨g',0,none⟩) (xs.length+1) cap',[(g',e,(xs.flatten++y++sp').toArray)]⟩ ⟨hlen,hone,.inr ⟨g',cap',sp',by simp,by simpa using h1,by simpa using h2,h3⟩⟩
  have he:(pre++([(g,e,(xs.flatten++sp).toArray)]++T)).set pre.length (g',e,(xs.flatten++y++sp').toArray)=pre++([(g',e,(xs.flatten++y++sp').toArray)]++T):=by
   rw [List.set_append_right _ _ (Nat.le_refl _),Nat.sub_self]
   rfl
  rw [he]
  exact hq
theorem movT {b:Nat×TypeId×Array Value} (h:wpS P w0 n ops Q F ((pre++[b])++T) l):wpS P w0 n ops Q F ((pre++T)++[b]) l :=
 permS (by
  rw [List.append_assoc,List.append_assoc]
  exact (List.perm_append_comm (l₁:=T) (l₂:=[b])).append_left pre) h
theorem setT {i:Nat} {b:Nat×TypeId×Array Value} (h:wpS P w0 n ops Q F ((pre.set i b)++T) l) (hi:Nat.ble (i+1) pre.length=true:=by kernel_rfl):wpS P w0 n ops Q F ((pre++T).set i b) l:=by
 rw [List.set_append_left _ _ (Nat.le_of_ble_eq_true hi)]
 exact h
theorem loopT {L:Blocks} {Y:Type} {c:Code} (N:Nat) (FF:Nat→Y→Slots) (LL:Nat→Y→Blocks) (H:Nat→Y→Prop) (x0:Y) (h0:H 0 x0) (hF:∀ p∈FF 0 x0,F.lookup p.1=some p.2) (hL:∀ w,St w0 w L→St w0 w (LL 0 x0))
  (hr:∀ k x,k≤N→H k x→wpC P w0 n (Exit.then (NextX w0 n N FF LL H k) Q) (FF k x) (LL k x) c):wpC P w0 n Q F L (.loop c) :=
 loopI N (λk a w=>∃ x,H k x∧Fr w0.ds a n (FF k x)∧St w0 w (LL k x)) (λ_ w ha hw=>⟨x0,h0,ha.all hF,hL w hw⟩)
  λk hk a w ⟨x,hx,ha,hw⟩=>hr k x hk hx a w ha hw
theorem againT {L:Blocks} {Y:Type} {N:Nat} {FF:Nat→Y→Slots} {LL:Nat→Y→Blocks} {H:Nat→Y→Prop} {k:Nat} {R:Exit→Act→World→Prop} (y:Y) (hk:k<N) (hy:H (k+1) y) (hF:∀ p∈FF (k+1) y,F.lookup p.1=some p.2) (hL:∀ w,St w0 w L→St w0 w (LL (k+1) y)) :
  X w0 n (Exit.then (NextX w0 n N FF LL H k) R) F L .normal:=λ_ w ha hw=>⟨hk,y,hy,ha.all hF,hL w hw⟩
theorem Slc.Is.cells {r:Slc} {e:TypeId} {sz:Nat} {xs:List (List Value)} (h:r.Is e sz xs):r.v.cells=#[r.v]∧r.v.oneCell'=true:=by
 rcases h.row with ⟨rfl,rfl⟩ | ⟨g,cap,sp,rfl,_⟩ <;> exact ⟨rfl,rfl⟩
end
theorem fold_all:∀ (c:List Value) (off k:Nat) (cs:Array Value),(c.zipIdx k).foldl (λcs x=>cs.setIfInBounds (off+x.2) x.1) cs=setAll cs (off+k) c
 | [],_,_,_=>rfl
 | v::c,off,k,cs=>by
  rw [List.zipIdx_cons,List.foldl_cons,fold_all c off (k+1)]
  rfl
theorem fill_one {place:Nat→Option (Nat×Nat)} {cs:Array Value} {c:List Value} {n:Nat} (hp:place 0=some (0,n)) (hc:c.length=n) (hs:cs.size=n):Instr.fill place cs [(0,.agg c.toArray)]=some c.toArray:=by
 unfold Instr.fill
 rw [hp]
 simp only [Value.cells,List.size_toArray,hc,hs,Nat.zero_add,ne_eq,not_true_eq_false,decide_false,Bool.false_or]
 rw [if_neg (by simp)]
 unfold Instr.fill
 have h1:c.toArray.zipIdx.foldl (λcs (x:Value×Nat)=>cs.setIfInBounds (0+x.2) x.1) cs=setAll cs (0+0) c:=by
  rw [← fold_all c 0 0 cs, ← Array.foldl_toList,Array.toList_zipIdx]
 have h2:=Cu.setAll_all c 0 cs (by omega)
 simp only [Nat.zero_add] at h1
 rw [h1,h2]
 simp
section
variable {P:Program} {w0:Base} {F:Slots} {L:Blocks} {o:Oper}
theorem Makes.one (t e:TypeId) (ie:TypeInfo) (z:Value) (s:Nat) (x:Operand) (c:List Value) (ho:o.op=.buildSlice t 1 #[(0,x)]) (hx:evF F x=.agg c.toArray) (ht:P.underlying t=some (.slice e)) (hi:P.info? e=some ie) (hz:ie.zero=some z) (hs:ie.size=s) (hc:c.length=s) (h0:0<s) (hb:s≤16777216) :
  Makes P F o e c.toArray (λg=>.slice (some ⟨g,0,none⟩) 1 1):=λw=>by
 subst hs
 have hr:=run_buildSlice (P:=P) w t e 1 #[(0,.agg c.toArray)] c.toArray ie z ht hi hz (by omega) (by omega) (fill_one (by simp) hc (by simp))
 unfold execOp
 simp only [ho,Sem.run_bind,List.map_toArray,List.map_cons,List.map_nil,hx,hr,Result.andThen_ok,Sem.run_pure]
theorem exec_upto (t:TypeId) (x hx':Operand) (g f len cap hi s:Nat) (kh:IntKind) (ho:o.op=.slice t x none (some hx') none) (hx:evF F x=.slice (some ⟨g,f,none⟩) len cap) (hh:evF F hx'=.int kh (hi:Int)) (ht:P.underlying t=some (.slice (P.elem t))) (hsz:∀ w,(sizeOf (P.elem t)).run P w=.ok s w) (h1:hi≤cap) (w:World) :
  (execOp (evF F) o).run P w=.ok (.value (.slice (some ⟨g,f,none⟩) hi cap)) w:=by
 have e:(Instr.sliceAt t (.slice (some ⟨g,f,none⟩) len cap) none (some (.int kh (hi:Int))) none).run P w=.ok (.slice (some ⟨g,f,none⟩) hi cap) w:=by
  rw [run_sliceAt_slice w t _ _ _ _ ht]
  simp [Instr.slice,run_underlying ht,Instr.sliceBounds,Instr.sliceBound,asIntOf,h1,hsz,Result.andThen,Addr.add]
 unfold execOp
 simp only [ho,hx,hh,Option.map_some,Option.map_none,e,Sem.run_bind,Sem.run_pure,Result.andThen_ok]
end
theorem Slc.Is.mk' {g nn cap:Nat} {e:TypeId} {sz:Nat} {xs:List (List Value)} {cs:List Value} (hl:∀ x∈xs,x.length=sz) (h1:∀ x∈xs, ∀ u∈x,u.oneCell'=true) (hn:xs.length=nn) (hc:cs.take (nn*sz)=xs.flatten) (hs:cs.length=cap*sz) (hle:nn≤cap) (hm:cap≤maxLen):Slc.Is ⟨.slice (some ⟨g,0,none⟩) nn cap,[(g,e,cs.toArray)]⟩ e sz xs:=by
 subst hn
 refine ⟨hl,h1,.inr ⟨g,cap,cs.drop (xs.length*sz),?_,?_,hle,hm⟩⟩
 ·rw [← hc,List.take_append_drop]
 ·have:=Nat.mul_le_mul_right sz hle
  rw [List.length_drop]
  omega
end Sy
end
section
namespace Sy
open Go.RowKit
section
variable {P:Program} {w0:Base} {n:Nat} {Q:Exit→Act→World→Prop} {F:Slots} {L M:Blocks} {ops:Array Oper} {ex:Nat→Bool} {fuel:Nat} {listed:Array Bool} {pre T:Blocks}
theorem permD (p:L.Perm M) (h:wpD P w0 n ops Q ex F M fuel listed):wpD P w0 n ops Q ex F L fuel listed:=λa w ha hw=>h a w ha (hw.perm p)
theorem mov_perm {b:Nat×TypeId×Array Value}:((pre++T)++[b]).Perm ((pre++[b])++T):=by
 rw [List.append_assoc,List.append_assoc]
 exact (List.perm_append_comm (l₁:=T) (l₂:=[b])).append_left pre
theorem movTD {b:Nat×TypeId×Array Value} (h:wpD P w0 n ops Q ex F ((pre++[b])++T) fuel listed):wpD P w0 n ops Q ex F ((pre++T)++[b]) fuel listed:=permD mov_perm h
theorem setTD {i:Nat} {b:Nat×TypeId×Array Value} (h:wpD P w0 n ops Q ex F ((pre.set i b)++T) fuel listed) (hi:Nat.ble (i+1) pre.length=true:=by kernel_rfl):wpD P w0 n ops Q ex F ((pre++T).set i b) fuel listed:=by
 rw [List.set_append_left _ _ (Nat.le_of_ble_eq_true hi)]
 exact h
def onlyQ (Q:Exit→Act→World→Prop) (K:Act→World→Prop):Exit→Act→World→Prop
 | .normal=>K
 | .panic c=>Q (.panic c)
 | _=>λ_ _=>False
theorem wp_only {o:Oper} {a:Act} {w:World} {K' K:Act→World→Prop} (h:o.wp P a w K (onlyQ Q K')):o.wp P a w K Q:=by
 unfold Oper.wp at *
 generalize (execOp a.eval o).run P w=r at *
 cases r with
 | ok x w' =>
  cases x <;> simp only [Oper.upon] at h ⊢ <;>
   first
    | exact h
    | exact Calls.mono h (λe w'' he=>by cases e <;> first | exact he | (obtain ⟨_,_,q⟩:=he; exact q.elim))
 | halt x w'=>cases x <;> simp only [Oper.upon] at h ⊢ <;> exact h
theorem soleD (k:Nat) {oi:Oper} (hi0:ops.toList[k]? = some oi) (h:∀ Q',(∀ F' L',wpD P w0 n ops Q ex F' L' fuel (listed.setIfInBounds k true)→wpS P w0 n ops Q' F' L' [])→wpS P w0 n ops Q' F L [oi])
  (hg:wantedF ops F oi=some true:=by kernel_rfl) (hr:Region.ready .any ops listed=[k]:=by kernel_rfl) (hex:ex k=true:=by rfl):wpD P w0 n ops Q ex F L (fuel+1) listed:=λa w ha hw =>
 wpAnyG_sole k hi0 hr (ha.wanted hg) λw1 h1 K hK=>by
  have q:=h (onlyQ Q K) (λF' L' hd a' w' ha' hw'=>wpList_nil (hK _ _ (λe=>by rw [hex] at e; cases e) (hd a' w' ha' hw'))) a w1 ha (hw.gr h1)
  unfold wpList at q
  rw [if_pos (ha.wanted hg)] at q
  rcases q with q | ⟨_,a',w',q⟩
  ·exact wp_only (K':=K) q
  ·exact q.elim
end
def nilS:Slc:=⟨.slice none 0 0,[]⟩
section
variable {r:Nat→Slc} {n i:Nat} {x:Slc}
end
section
variable {w0:Base} {w:World} {pre a T M N:Blocks}
end
section
variable {P:Program} {w0:Base} {F:Slots} {L:Blocks} {o:Oper}
end
end Sy
end
section
namespace Sy
open Go.RowKit
section
variable {P:Program} {w0:Base} {n:Nat} {Q:Exit→Act→World→Prop} {F:Slots} {L pre T:Blocks} {ops:Array Oper} {o:Oper} {l:List Oper}
theorem appendM (hg:good ops n F o=true) (ts e:TypeId) (inf:TypeInfo) (z:Value) (sz by_:Nat) (ht:P.underlying ts=some (.slice e)) (hinf:P.info? e=some inf) (hz:inf.zero=some z) (hs1:inf.size=sz) (hb1:inf.bytes=by_) (hzs:z.cells.size=sz) (h0:0<sz)
  (s x:Operand) (ho:o.op=.call { callee:=.builtin .append,args:=#[s,x],argTypes:=#[ts,ts] })
  {r:Slc} {xs ys:List (List Value)} (hr:r.Is e sz xs) (hs:evF F s=r.v) (hy:∀ y∈ys,y.length=sz) (hy1:∀ y∈ys, ∀ u∈y,u.oneCell'=true)
  (A:Option Addr) (m c:Nat) (hm:ys.length=m) (hmc:m≤c) (hx:evF F x=.slice A m c) (hf:∀ r:Slc,From w0 (pre++(r.bl++T)) A ys.flatten) (hsmall:(xs.length+m)*by_≤140737488355328) (h63:xs.length+m≤maxLen)
  (h:∀ r':Slc,r'.Is e sz (xs++ys)→wpS P w0 n ops Q (putF F o.dst r'.v) (pre++(r'.bl++T)) l):wpS P w0 n ops Q F (pre++(r.bl++T)) (o::l):=by
 have hlen:∀ u∈xs++ys,u.length=sz:=λu hu=>(List.mem_append.1 hu).elim (hr.len u) (hy u)
 have hone:∀ u∈xs++ys, ∀ v∈u,v.oneCell'=true:=λu hu=>(List.mem_append.1 hu).elim (hr.one u) (hy1 u)
 have hyl:ys.flatten.length=m*sz:=by rw [flat_len' hy,hm]
 have hyo:∀ u∈ys.flatten,u.oneCell'=true:=λu hu=>by
  obtain ⟨y,h1,h2⟩:=List.mem_flatten.1 hu
  exact hy1 y h1 u h2
 rcases hr.row with ⟨rfl,rfl⟩ | ⟨g,cap,sp,rfl,q1,q2,q3⟩
 ·rcases Nat.eq_zero_or_pos m with rfl | hm0
  ·obtain rfl:ys=[]:=List.eq_nil_of_length_eq_zero hm
   intro a w ha hw
   obtain ⟨k1,_,k3,_⟩:=good_spec hg
   refine wpList_step λK hK=>?_
   rw [if_pos (ha.wanted k1)]
   have hfc:(Builtin.firstCells inf.size 0 (.slice A 0 c)).run P w=.ok #[] w:=by
    cases A with
    | none=>simp [Builtin.firstCells,Sem.run_pure]
    | some a=>simpa using run_firstCells_some (P:=P) w inf.size 0 a 0 c [] (by simp) (λj u hj=>by cases hj)
   have hrn:(Builtin.append_ #[ts,ts] o.type #[.slice none 0 0,.slice A 0 c]).run P w=.ok (.slice none 0 0) w:=by
    simp [Builtin.append_,run_underlying ht,sizeOf,typeInfo,hinf,Builtin.lenOf,hfc]
   unfold Oper.wp
   rw [good_exec hg ha]
   unfold execOp
   simp only [ho,resolve,invoke,builtin,Sem.run_bind,Sem.run_pure,Result.andThen_ok,List.map_toArray,List.map_cons,List.map_nil,hs,hx,hrn]
   exact hK _ _ (h nilS (Slc.Is.nil e sz) _ _ (ha.put k3 _) hw)
  ·refine appendGNil hg ts e inf z sz by_ ht hinf hz hs1 hb1 hzs h0 s x ho hs A m c ys.flatten hx (hf _) hyl hm0 hyo (by simpa using hsmall) (by simpa using h63) (λg' cap' sp' h1 h2 h3=>?_)
   have hq:=h ⟨.slice (some ⟨g',0,none⟩) m cap',[(g',e,(ys.flatten++sp').toArray)]⟩ ⟨hlen,hone,.inr ⟨g',cap',sp',by simp [hm],by simpa [hm] using h1,by simpa [hm] using h2,h3⟩⟩
   exact permS (by
    rw [List.nil_append,List.append_assoc]
    exact (List.perm_append_comm (l₁:=T) (l₂:=[(g',e,(ys.flatten++sp').toArray)])).append_left pre) hq
 ·have hi:(pre++([(g,e,(xs.flatten++sp).toArray)]++T))[pre.length]? = some (g,e,(xs.flatten++sp).toArray):=by
   rw [List.getElem?_append_right (Nat.le_refl _),Nat.sub_self]
   rfl
  refine appendG hg ts e inf z sz by_ ht hinf hz hs1 hb1 hzs h0 s x ho pre.length g xs.length cap xs.flatten sp hs hi (flat_len' hr.len) q1 q3 A m c ys.flatten hx (hf ⟨.slice none 0 0,[(g,e,(xs.flatten++sp).toArray)]⟩) hyl hmc hyo hsmall h63 (λg' cap' sp' h1 h2 h3=>?_)
  have hq:=h ⟨.slice (some ⟨g',0,none⟩) (xs.length+m) cap',[(g',e,(xs.flatten++ys.flatten++sp').toArray)]⟩ ⟨hlen,hone,.inr ⟨g',cap',sp',by simp [hm],by simpa [hm] using h1,by simpa [hm] using h2,h3⟩⟩
  have he:(pre++([(g,e,(xs.flatten++sp).toArray)]++T)).set pre.length (g',e,(xs.flatten++ys.flatten++sp').toArray)=pre++([(g',e,(xs.flatten++ys.flatten++sp').toArray)]++T):=by
   rw [List.set_append_right _ _ (Nat.le_refl _),Nat.sub_self]
   rfl
  rw [he]
  exact hq
end
theorem retGM {P:Program} {w1:World} {n:Nat} {F:Slots} {L:Blocks} {fn:Func} {r:ResultVar} {v:Value} {R:Value→Blocks→Prop} (M:Blocks) (hr:fn.results=#[r]) (h:Has P F L r v) (hM:∀ w,St (Base.of w1) w L→St (Base.of w1) w M) (hR:R v M):X (Base.of w1) n (bodyPost P fn (GetsN w1 R)) F L .ret:=λa w ha hw=>by
 refine bodyPost_ret (v:=v) ?_ ha.1 ⟨v,M,rfl,hR,hw.below,λg t cs hm=>(hM w hw).blk g t cs hm,(hM w hw).apart⟩
 rcases Res.run h ha hw with ⟨t,rfl,e1⟩ | ⟨t,ty,ad,rfl,e1,e2⟩ <;> simp [results,Result.andThen, *]
end Sy
end
section
namespace Wr
open Go.RowKit Sy
set_option maxRecDepth 100000
set_option maxHeartbeats 4000000
abbrev Rdr:=Nat→Nat→Value→Prop
def Le (C D:Rdr):Prop:=∀ g o v,C g o v→D g o v
def rdW (w:World):Rdr:=λg o v=>g<w.heap.size∧w.cell? ⟨g,o,none⟩=some v
def rdB (M:Blocks):Rdr:=λg o v=>∃ t cs,(g,t,cs)∈M∧cs[o]? = some v
def rdC (w0:Base) (R:Blocks):Rdr:=λg o v=>rdW w0.world g o v∨rdB R g o v
theorem rdB_le {M N:Blocks} (h:∀ b∈M,b∈N):Le (rdB M) (rdB N):=λ_ _ _ ⟨t,cs,hm,hc⟩=>⟨t,cs,h _ hm,hc⟩
theorem rdC_le {w0:Base} {M N:Blocks} (h:∀ b∈M,b∈N):Le (rdC w0 M) (rdC w0 N):=λg o v hv=>hv.imp id (rdB_le h g o v)
theorem rdC_world {w0:Base} {w:World} {L R:Blocks} (hw:St w0 w L) (hR:∀ b∈R,b∈L):Le (rdC w0 R) (rdW w):=by
 rintro g o v (⟨hg,hc⟩ | ⟨t,cs,hm,hc⟩)
 ·exact ⟨Nat.lt_of_lt_of_le hg hw.below.size,(Below.cell (p:=⟨g,o,none⟩) hw.below hg).trans hc⟩
 ·have hb:=(hw.blk g t cs (hR _ hm)).2
  exact ⟨hb.lt,(hb.cell o).trans hc⟩
theorem rdW_base {w:World} {R:Blocks}:Le (rdW w) (rdC (Base.of w) R):=λ_ _ _ h=>.inl h
theorem rdB_base {w0:Base} {R:Blocks}:Le (rdB R) (rdC w0 R):=λ_ _ _ h=>.inr h
def BytR (C:Rdr) (v:Value) (b:Byt):Prop:=∃ A n cp,v=.slice A n cp∧b.length=n∧n≤cp∧cp≤maxLen∧(b≠[]→∃ g o,A=some ⟨g,o,none⟩∧∀ j u,b[j]? = some u→C g (o+j) (bv u))
theorem BytR.le {C D:Rdr} (hl:Le C D) {v:Value} {b:Byt} (h:BytR C v b):BytR D v b:=by
 obtain ⟨A,n,cp,h1,h2,h3,h4,h5⟩:=h
 exact ⟨A,n,cp,h1,h2,h3,h4,λhb=>by obtain ⟨g,o,e,hq⟩:=h5 hb; exact ⟨g,o,e,λj u hu=>hl _ _ _ (hq j u hu)⟩⟩
theorem BytR.nil (C:Rdr):BytR C (.slice none 0 0) []:=⟨none,0,0,rfl,rfl,Nat.le_refl _,Nat.zero_le _,λh=>(h rfl).elim⟩
theorem BytR.cells {C:Rdr} {v:Value} {b:Byt} (h:BytR C v b):v.cells=#[v]∧v.oneCell'=true:=by
 obtain ⟨A,n,cp,rfl,_⟩:=h; exact ⟨rfl,rfl⟩
def byL (b:Byt):List (List Value):=b.map λu=>[bv u]
theorem byL_flat (b:Byt):(byL b).flatten=b.map bv:=by induction b with | nil=>rfl | cons u b ih=>show bv u::(byL b).flatten=bv u::b.map bv; rw [ih]
theorem byL_len (b:Byt):(byL b).length=b.length:=List.length_map _
theorem byL_app (a b:Byt):byL (a++b)=byL a++byL b:=List.map_append
theorem byL_one (b:Byt):∀ y∈byL b,y.length=1:=λy hy=>by obtain ⟨u,_,rfl⟩:=List.mem_map.1 hy; rfl
theorem byL_oneC (b:Byt):∀ y∈byL b, ∀ u∈y,u.oneCell'=true:=λy hy u hu=>by
 obtain ⟨w,_,rfl⟩:=List.mem_map.1 hy
 rw [List.mem_singleton.1 hu]; rfl
theorem BytR.from {w0:Base} {L R:Blocks} {A:Option Addr} {n cp:Nat} {b:Byt} (h:BytR (rdC w0 R) (.slice A n cp) b) (hR:∀ x∈R,x∈L):From w0 L A (byL b).flatten:=λw hw=>by
 obtain ⟨A',n',cp',e,h2,h3,h4,h5⟩:=h
 injection e with e1 e2 e3
 subst e1
 rw [byL_flat]
 cases b with
 | nil=>exact .inl rfl
 | cons u b =>
  obtain ⟨g,o,rfl,hq⟩:=h5 (by simp)
  refine .inr ⟨_,rfl,λj v hj=>?_⟩
  rw [addr_off]
  rw [List.getElem?_map] at hj
  cases hx:(u::b)[j]? with
  | none=>rw [hx] at hj; cases hj
  | some x =>
   rw [hx] at hj
   cases hj
   exact (rdC_world hw hR _ _ _ (hq j x hx)).2
theorem Slc_byt {r:Slc} {e:TypeId} {b:Byt} (h:r.Is e 1 (byL b)):BytR (rdB r.bl) r.v b:=by
 rcases h.row with ⟨e1,rfl⟩ | ⟨g,cap,sp,rfl,h1,h2,h3⟩
 ·have:b=[]:=by cases b with | nil=>rfl | cons=>cases e1
  rw [this]
  exact BytR.nil _
 ·rw [byL_len] at h1 h2
  refine ⟨_,_,_,rfl,(byL_len b).symm,by rw [byL_len]; exact h2,h3,λ_=>⟨g,0,rfl,λj u hu=>⟨e,_,List.mem_singleton.2 rfl,?_⟩⟩⟩
  have hl:=(List.getElem?_eq_some_iff.1 hu).1
  rw [byL_flat,Nat.zero_add,List.getElem?_toArray,List.getElem?_append_left (by simpa using hl),List.getElem?_map,hu]
  rfl
section
variable {P:Program} {w0:Base} {n:Nat} {Q:Exit→Act→World→Prop} {F:Slots} {L:Blocks} {ops:Array Oper} {o:Oper} {ex:Nat→Bool} {fuel:Nat} {listed:Array Bool}
theorem sa (i:Nat) {oi:Oper} (hi0:ops.toList[i]? = some oi) {v:Value} (hl:opV F oi.op=some v) (h:wpD P w0 n ops Q ex (putF F oi.dst v) L fuel (listed.setIfInBounds i true)) (hc:canTakeA .any ops listed i=true:=by kernel_rfl) (hg:good ops n F oi=true:=by kernel_rfl)
  (hQ:∀ c v a w,Q (.panic c) (a.put oi.dst v) w→Q (.panic c) a w:=by exact λ_ _ _ _ h=>h):wpD P w0 n ops Q ex F L (fuel+1) listed:=stepDA i hi0 hc hQ hg v (opV_run hl) h
theorem sb (i:Nat) {oi:Oper} (hi0:ops.toList[i]? = some oi) (v:Value) (h:wpD P w0 n ops Q ex (putF F oi.dst v) L fuel (listed.setIfInBounds i true)) (hp:∀ w,(execOp (evF F) oi).run P w=.ok (.value v) w:=by intro _; kernel_rfl) (hc:canTakeA .any ops listed i=true:=by kernel_rfl) (hg:good ops n F oi=true:=by kernel_rfl)
  (hQ:∀ c v a w,Q (.panic c) (a.put oi.dst v) w→Q (.panic c) a w:=by exact λ_ _ _ _ h=>h):wpD P w0 n ops Q ex F L (fuel+1) listed:=stepDA i hi0 hc hQ hg v hp h
theorem sv (i:Nat) {oi:Oper} (hi0:ops.toList[i]? = some oi) (v:Value) (hp:∀ w,(execOp (evF F) oi).run P w=.ok (.value v) w) (h:wpD P w0 n ops Q ex (putF F oi.dst v) L fuel (listed.setIfInBounds i true)) (hc:canTakeA .any ops listed i=true:=by kernel_rfl) (hg:good ops n F oi=true:=by kernel_rfl)
  (hQ:∀ c v a w,Q (.panic c) (a.put oi.dst v) w→Q (.panic c) a w:=by exact λ_ _ _ _ h=>h):wpD P w0 n ops Q ex F L (fuel+1) listed:=stepDA i hi0 hc hQ hg v hp h
theorem se (i:Nat) (bs:List Nat) {oi:Oper} (hi0:ops.toList[i]? = some oi) (v:Value) (hq:Quiet P w0 F L oi v) (h:wpD P w0 n ops Q ex (putF F oi.dst v) L fuel (listed.setIfInBounds i true)) (hc:canTakeB .any ops listed ex i bs=true:=by kernel_rfl) (hg:good ops n F oi=true:=by kernel_rfl)
  (hQ:∀ c v a w,Q (.panic c) (a.put oi.dst v) w→Q (.panic c) a w:=by exact λ_ _ _ _ h=>h):wpD P w0 n ops Q ex F L (fuel+1) listed:=stepDB i bs hi0 hc hQ hg v hq h
theorem keep1 {a b:Nat×TypeId×Array Value} {A:Blocks} {w:World} (h:St w0 w ([a,b]++A)):St w0 w ([a]++A):=h.less (((List.Sublist.refl A).cons b).cons_cons a)
end
end Wr
end
section
namespace Wr
open Go.RowKit Sy
set_option maxRecDepth 100000
set_option maxHeartbeats 4000000
theorem conv_86 (w:World) (F:Slots) (o:Oper) (x:Operand) (u:UInt8) (ho:o.op=.convert 5 26 x) (hx:evF F x=bv u):(execOp (evF F) o).run Tryz.prog w=.ok (.value (.int .u64 ((u.toNat:Nat):Int))) w:=by
 have hu:=u.toNat_lt
 have e:(convert 5 26 (.int .u8 ((u.toNat:Nat):Int))).run Tryz.prog w=.ok (.int .u64 ((u.toNat:Nat):Int)) w:=by
  go_simp
  exact wrap_u64 (by omega) (by omega)
 unfold execOp
 simp only [ho,hx,bv,e,Sem.run_bind,Sem.run_pure,Result.andThen_ok]
abbrev BS (s:Slc) (b:Byt):Prop:=s.Is 5 1 (byL b)
end Wr
end
section
namespace Wr
open Go.RowKit Sy
set_option maxRecDepth 100000
set_option maxHeartbeats 4000000
end Wr
end
section
namespace Wr
open Go.RowKit Sy
set_option maxRecDepth 100000
set_option maxHeartbeats 4000000
theorem BytR.slice {C:Rdr} {A:Option Addr} {n cp:Nat} {b:Byt} (h:BytR C (.slice A n cp) b) {l m:Nat} (hl:l≤m) (hm:m≤n):BytR C (sliced A l m cp 1) ((b.drop l).take (m - l)):=by
 obtain ⟨A',n',cp',e,h2,h3,h4,h5⟩:=h
 injection e with e1 e2 e3
 subst e1 e2 e3
 refine ⟨_,_,_,rfl,by rw [List.length_take,List.length_drop]; omega,by omega,by omega,λhne=>?_⟩
 have hb:b≠[]:=λe=>hne (by rw [e]; simp)
 have hlt:l<m:=by
  rcases Nat.lt_or_ge l m with h | h
  ·exact h
  ·exact (hne (by rw [show m - l=0 by omega,List.take_zero])).elim
 obtain ⟨g,o,rfl,hq⟩:=h5 hb
 refine ⟨g,o+l,?_,λj u hj=>?_⟩
 ·rw [if_neg (by omega),Option.map_some,addr_off,Nat.mul_one]
 ·have hj':j<m - l:=by
   have:=(List.getElem?_eq_some_iff.1 hj).1
   rw [List.length_take] at this; omega
  rw [List.getElem?_take_of_lt hj',List.getElem?_drop] at hj
  rw [Nat.add_assoc]
  exact hq _ _ hj
theorem BytR.drop {C:Rdr} {A:Option Addr} {n cp:Nat} {b:Byt} (h:BytR C (.slice A n cp) b) {l:Nat} (hl:l≤n):BytR C (sliced A l n cp 1) (b.drop l):=by
 have q:=h.slice hl (Nat.le_refl n)
 obtain ⟨A',n',cp',e,h2,_⟩:=h
 injection e with e1 e2 e3
 subst e1 e2 e3
 rw [List.take_of_length_le (by rw [List.length_drop]; omega)] at q
 exact q
theorem exec_sl {F:Slots} {o:Oper} (x kx:Operand) (A:Option Addr) (n cp k:Nat) (ho:o.op=.slice 22 x (some kx) none none) (hx:evF F x=.slice A n cp) (hk:evF F kx=.int .i64 (k:Int)) (h:k≤n) (w:World):(execOp (evF F) o).run Tryz.prog w=.ok (.value (sliced A k n cp 1)) w:=by
 have ht:Tryz.prog.underlying 22=some (.slice (Tryz.prog.elem 22)):=by kernel_rfl
 have e:(Instr.sliceAt 22 (.slice A n cp) (some (.int .i64 (k:Int))) none none).run Tryz.prog w=.ok (sliced A k n cp 1) w:=by
  rw [run_sliceAt_slice w 22 _ _ _ _ ht,run_slice_l w 22 A n cp ht .i64 k (by omega) (by omega)]
  have hs:(sizeOf (Tryz.prog.elem 22)).run Tryz.prog w=.ok 1 w:=by kernel_rfl
  rw [hs,Result.andThen_ok,Int.toNat_natCast]
 unfold execOp
 simp only [ho,hx,hk,Option.map_some,Option.map_none,e,Sem.run_bind,Sem.run_pure,Result.andThen_ok]
theorem exec_slh {F:Slots} {o:Oper} (x kx hx':Operand) (A:Option Addr) (n cp k m:Nat) (ho:o.op=.slice 22 x (some kx) (some hx') none) (hx:evF F x=.slice A n cp) (hk:evF F kx=.int .i64 (k:Int)) (hm:evF F hx'=.int .i64 (m:Int)) (h:k≤m) (h2:m≤cp) (w:World):(execOp (evF F) o).run Tryz.prog w=.ok (.value (sliced A k m cp 1)) w:=by
 have ht:Tryz.prog.underlying 22=some (.slice (Tryz.prog.elem 22)):=by kernel_rfl
 have e:(Instr.sliceAt 22 (.slice A n cp) (some (.int .i64 (k:Int))) (some (.int .i64 (m:Int))) none).run Tryz.prog w=.ok (sliced A k m cp 1) w:=by
  rw [run_sliceAt_slice w 22 _ _ _ _ ht,run_slice_lh w 22 A n cp ht .i64 .i64 k m (by omega) (by omega) (by omega)]
  have hs:(sizeOf (Tryz.prog.elem 22)).run Tryz.prog w=.ok 1 w:=by kernel_rfl
  rw [hs,Result.andThen_ok,Int.toNat_natCast,Int.toNat_natCast]
 unfold execOp
 simp only [ho,hx,hk,hm,Option.map_some,Option.map_none,e,Sem.run_bind,Sem.run_pure,Result.andThen_ok]
theorem int_or8 (t:TypeId) (a c:Nat) (ha:a<72057594037927936) (hc:c<256) (w:World):(binOp .or t (.int .u64 ((a*256:Nat):Int)) (.int .u64 (c:Int))).run Tryz.prog w=.ok (.int .u64 ((256*a+c:Nat):Int)) w:=by
 have e:((BitVec.ofInt IntKind.u64.bits ((a*256:Nat):Int) ||| BitVec.ofInt IntKind.u64.bits (c:Int)).toNat:Nat)=256*a+c:=by
  show ((BitVec.ofInt 64 ((a*256:Nat):Int) ||| BitVec.ofInt 64 (c:Int)).toNat)=_
  rw [BitVec.toNat_or,BitVec.ofInt_natCast,BitVec.ofInt_natCast,BitVec.toNat_ofNat,BitVec.toNat_ofNat,Nat.mod_eq_of_lt (by omega),Nat.mod_eq_of_lt (by omega),Nat.mul_comm]
  exact (Nat.two_pow_add_eq_or_of_lt (i:=8) hc a).symm
 have h:IntKind.u64.wrap (((BitVec.ofInt IntKind.u64.bits ((a*256:Nat):Int) ||| BitVec.ofInt IntKind.u64.bits (c:Int)).toNat:Nat):Int)=((256*a+c:Nat):Int):=by
  rw [e]; exact wrap_u64 (by omega) (by omega)
 simp only [binOp,ne_eq,not_true_eq_false,if_false,Op.intBits,Sem.run_pure]
 rw [h]
theorem int_shl8 (t:TypeId) (a:Nat) (ha:a<72057594037927936) (w:World):(binOp .shl t (.int .u64 (a:Int)) (.int .u64 8)).run Tryz.prog w=.ok (.int .u64 ((a*256:Nat):Int)) w:=by
 have h:IntKind.u64.wrap ((a:Int)*2 ^ min (8:Int).toNat IntKind.u64.bits)=((a*256:Nat):Int):=by
  rw [show (2:Int) ^ min (8:Int).toNat IntKind.u64.bits=256 from rfl,Int.natCast_mul]
  exact wrap_u64 (by omega) (by omega)
 simp only [binOp,Op.shift,if_neg (show ¬ (8:Int)<0 by omega),Sem.run_pure,h]
theorem said_take (b:Byt) (i:Nat) (u:UInt8) (h:b[i]? = some u):said (b.take (i+1))=256*said (b.take i)+u.toNat:=by
 rw [List.take_add_one,h]
 exact said_snoc _ _
theorem said_lt8 (b:Byt) (i:Nat) (hi:i≤7):said (b.take i)<72057594037927936:=by
 have h:=said_lt (b.take i)
 have h2:256 ^ (b.take i).length≤256 ^ 7:=Nat.pow_le_pow_right (by decide) (by rw [List.length_take]; omega)
 exact Nat.lt_of_lt_of_le h h2
end Wr
end
section
namespace Wr
open Go.RowKit Sy
set_option maxRecDepth 100000
set_option maxHeartbeats 4000000
section
variable {P:Program} {w0:Base} {n:Nat} {Q:Exit→Act→World→Prop} {F:Slots} {L:Blocks}
end
theorem BytR.at {w w':World} {L:Blocks} {v:Value} {b:Byt} (h:BytR (rdW w) v b) (hw:St (Base.of w) w' L):BytR (rdW w') v b:=h.le λg o u hu=>rdC_world (R:=[]) hw (λ_ h=>by cases h) g o u (.inl hu)
end Wr
end
section
namespace Wr
open Go.RowKit Sy
set_option maxRecDepth 100000
set_option maxHeartbeats 4000000
end Wr
end
section
namespace Wr
open Go.RowKit Sy
set_option maxRecDepth 100000
set_option maxHeartbeats 4000000
end Wr
end
section
namespace Wr
open Go.RowKit Sy
set_option maxRecDepth 100000
set_option maxHeartbeats 4000000
def XAt (C:Rdr) (g f:Nat) (cs:List Value):Prop:=∀ i u,cs[i]? = some u→C g (f+i) u
theorem XAt.le {C D:Rdr} (hl:Le C D) {g f:Nat} {cs:List Value} (h:XAt C g f cs):XAt D g f cs:=λi u hu=>hl _ _ _ (h i u hu)
section
variable {P:Program} {w0:Base} {F:Slots} {L R:Blocks} {o:Oper}
theorem cellC {x:Operand} {d:TypeDesc} {ty:TypeId} {v:Value} {g f:Nat} (hc:rdC w0 R g f v) (hR:∀ b∈R,b∈L) (ho:o.op=.load ty x) (hu:P.underlying ty=some d) (hx:evF F x=.pointer (some ⟨g,f,none⟩):=by kernel_rfl) (hd:d.isRow=false:=by rfl):Quiet P w0 F L o v:=λw hw=>by
 have hc:w.cell? ⟨g,f,none⟩=some v:=(rdC_world hw hR _ _ _ hc).2
 have ha:(isAgg ty).run P w=.ok false w:=by
  cases d <;> first | (cases hd; done) | simp [isAgg,underlying,hu]
 unfold Gives execOp
 simp only [ho,hx,Instr.loadAt,Instr.sureAddr,Sem.run_bind,Sem.run_pure,Result.andThen_ok,loadVar,ha,Bool.false_eq_true,if_false,run_load,hc]
 exact ⟨trivial,Gr.refl _⟩
theorem rowC {x:Operand} {d:TypeDesc} {ty:TypeId} {g f k:Nat} {cs:List Value} (hc:XAt (rdC w0 R) g f cs) (hR:∀ b∈R,b∈L) (hl:cs.length=k) (ho:o.op=.load ty x) (hu:P.underlying ty=some d) (hx:evF F x=.pointer (some ⟨g,f,none⟩):=by kernel_rfl) (hd:d.isRow=true:=by rfl) (hi:(P.info? ty).map (·.size)=some k:=by kernel_rfl):Quiet P w0 F L o (.agg cs.toArray):=λw hw=>by
 have hl:=run_loadVar_mid (P:=P) w g f ty cs d (λj u hj=>(rdC_world hw hR _ _ _ (hc j u hj)).2) hu hd (by rw [hi,hl])
 unfold Gives execOp
 simp only [ho,hx,Instr.loadAt,Instr.sureAddr,Sem.run_bind,Sem.run_pure,Result.andThen_ok,hl]
 exact ⟨trivial,Gr.refl _⟩
end
end Wr
end
section
namespace Pg
open Go.RowKit Sy
set_option maxRecDepth 100000
set_option maxHeartbeats 4000000
open Wr
def LstR {α:Type} (C:Rdr) (k:Nat) (rep:Rdr→List Value→α→Prop) (v:Value) (l:List α):Prop:=∃ A n cp,v=.slice A n cp∧l.length=n∧n≤cp∧cp≤maxLen∧(l≠[]→∃ g o,A=some ⟨g,o,none⟩∧∀ j x,l[j]? = some x→∃ cs:List Value,cs.length=k∧(∀ u∈cs,u.oneCell'=true)∧rep C cs x∧XAt C g (o+j*k) cs)
def Mono {α:Type} (rep:Rdr→List Value→α→Prop):Prop:=∀ {C D:Rdr} {cs:List Value} {x:α},Le C D→rep C cs x→rep D cs x
theorem LstR.le {α:Type} {C D:Rdr} {k:Nat} {rep:Rdr→List Value→α→Prop} (hm:Mono rep) {v:Value} {l:List α} (hl:Le C D) (h:LstR C k rep v l):LstR D k rep v l:=by
 obtain ⟨A,n,cp,h1,h2,h3,h4,h5⟩:=h
 refine ⟨A,n,cp,h1,h2,h3,h4,λhne=>?_⟩
 obtain ⟨g,o,e,hq⟩:=h5 hne
 refine ⟨g,o,e,λj x hx=>?_⟩
 obtain ⟨cs,q1,q2,q3,q4⟩:=hq j x hx
 exact ⟨cs,q1,q2,hm hl q3,q4.le hl⟩
noncomputable def infBo:TypeInfo:=(Tryz.prog.info? 4).getD default
theorem info_bo:Tryz.prog.info? 4=some infBo:=by kernel_rfl
theorem conv_8i (w:World) (F:Slots) (o:Oper) (x:Operand) (u:UInt8) (ho:o.op=.convert 5 3 x) (hx:evF F x=bv u):(execOp (evF F) o).run Tryz.prog w=.ok (.value (.int .i64 ((u.toNat:Nat):Int))) w:=by
 have hu:=u.toNat_lt
 have e:(convert 5 3 (.int .u8 ((u.toNat:Nat):Int))).run Tryz.prog w=.ok (.int .i64 ((u.toNat:Nat):Int)) w:=by
  go_simp
  exact wrap_i64 (by omega) (by omega)
 unfold execOp
 simp only [ho,hx,bv,e,Sem.run_bind,Sem.run_pure,Result.andThen_ok]
abbrev folV (c:UInt8):Value:=.tuple #[.int .i64 (((follow c).getD 0:Nat):Int),.bool (follow c).isSome]
theorem follow_any (w:World) (c:UInt8):Calls Tryz.prog 40 #[bv c] w (Gets w (folV c)):=by
 have hc:=c.toNat_lt
 refine Sy.enter (args:=[bv c]) Tryz.func40 rfl kL ?_
 refine sC ?_
 refine sP (.int .i64 0)<|sP (.bool false) ?_
 refine sG<|Sy.seq<|Sy.block<|sC ?_
 obtain ⟨b1,hb1⟩:∃ z:Bool,z=decide (c.toNat≤64):=⟨_,rfl⟩
 refine sp rfl<|sS (.bool b1) (Quiet.pure (exec_int .leq _ _ _ .u8 _ _ _ rfl rfl rfl (int_leq _ _ _ _ _ (by rw [hb1]; exact decide_eq_decide.2 (by omega)))))<|sp rfl ?_
 refine sG ?_
 cases b1
 case' true =>
  have l1:c.toNat≤64:=of_decide_eq_true hb1.symm
  refine sT<|sC ?_
  refine sp rfl<|sS (.int .i64 ((c.toNat:Nat):Int)) (Quiet.pure (λw=>conv_8i w _ _ _ c rfl rfl))<|sp rfl<|sP (.bool true) ?_
  refine sG<|Sy.ret<|Sy.in_ret<|Sy.then_ret ?_
  have e:folV c=.tuple #[.int .i64 ((c.toNat:Nat):Int),.bool true]:=by unfold folV follow; rw [if_pos l1]; rfl
  rw [e]
  exact Sy.ret2 rfl (.inl (show _=_ by kernel_rfl)) (.inl (show _=_ by kernel_rfl))
 have l1:¬ c.toNat≤64:=of_decide_eq_false hb1.symm
 refine sU<|sC ?_
 obtain ⟨b2,hb2⟩:∃ z:Bool,z=decide (c.toNat=104):=⟨_,rfl⟩
 refine sp rfl<|sS (.bool b2) (Quiet.pure (exec_int .eql _ _ _ .u8 _ _ _ rfl rfl rfl (int_eql _ _ _ _ _ (by rw [hb2]; exact decide_eq_decide.2 (by omega)))))<|sp rfl ?_
 refine sG ?_
 cases b2
 case' true =>
  have l2:c.toNat=104:=of_decide_eq_true hb2.symm
  refine sT<|sC ?_
  refine sP (.int .i64 2)<|sP (.bool true) ?_
  refine sG<|Sy.ret<|Sy.in_ret<|Sy.then_ret ?_
  have e:folV c=.tuple #[.int .i64 2,.bool true]:=by unfold folV follow; rw [if_neg l1,if_pos l2]; rfl
  rw [e]
  exact Sy.ret2 rfl (.inl (show _=_ by kernel_rfl)) (.inl (show _=_ by kernel_rfl))
 have l2:¬ c.toNat=104:=of_decide_eq_false hb2.symm
 refine sU<|Sy.skip<|Sy.in_<|sB ?_
 obtain ⟨b3,hb3⟩:∃ z:Bool,z=decide (96≤c.toNat):=⟨_,rfl⟩
 refine sp rfl<|sS (.bool b3) (Quiet.pure (exec_int .geq _ _ _ .u8 _ _ _ rfl rfl rfl (int_geq _ _ _ _ _ (by rw [hb3]; exact decide_eq_decide.2 (by omega)))))<|sp rfl ?_
 cases b3
 case' false =>
  have l3:¬ 96≤c.toNat:=of_decide_eq_false hb3.symm
  refine sN<|sN<|sP (.bool false)<|sP (.int .i64 0)<|sp rfl ?_
  refine sG<|Sy.ret ?_
  have e:folV c=.tuple #[.int .i64 0,.bool false]:=by unfold folV follow; rw [if_neg l1,if_neg l2,if_neg (λh=>l3 h.1)]; rfl
  rw [e]
  exact Sy.ret2 rfl (.inl (show _=_ by kernel_rfl)) (.inl (show _=_ by kernel_rfl))
 have l3:96≤c.toNat:=of_decide_eq_true hb3.symm
 obtain ⟨b4,hb4⟩:∃ z:Bool,z=decide (c.toNat≤108):=⟨_,rfl⟩
 refine sp rfl<|sS (.bool b4) (Quiet.pure (exec_int .leq _ _ _ .u8 _ _ _ rfl rfl rfl (int_leq _ _ _ _ _ (by rw [hb4]; exact decide_eq_decide.2 (by omega)))))<|sP (.bool b4)<|sP (.int .i64 0)<|sp rfl ?_
 refine sG<|Sy.ret ?_
 have e:folV c=.tuple #[.int .i64 0,.bool b4]:=by
  unfold folV follow
  rw [if_neg l1,if_neg l2]
  cases b4
  ·have l4:¬ c.toNat≤108:=of_decide_eq_false hb4.symm
   rw [if_neg (λh=>l4 h.2)]; rfl
  ·have l4:c.toNat≤108:=of_decide_eq_true hb4.symm
   rw [if_pos ⟨l3,l4⟩]; rfl
 rw [e]
 exact Sy.ret2 rfl (.inl (show _=_ by kernel_rfl)) (.inl (show _=_ by kernel_rfl))
def brL (o:List Bool):List (List Value):=o.map λb=>[.bool b]
theorem brL_len (o:List Bool):(brL o).length=o.length:=List.length_map _
abbrev BrS (y:Slc) (o:List Bool):Prop:=y.Is 4 1 (brL o)
abbrev TKS (g:Nat) (y:Slc) (T:Blocks):Blocks:=[(g,88,#[y.v])]++(y.bl++T)
def TkR (g:Nat) (T:Blocks) (r:Option (List Bool)) (v:Value) (M:Blocks):Prop:=v=.bool r.isSome∧∃ y,M=TKS g y T∧∀ o',r=some o'→BrS y o'
theorem brL_one (o:List Bool):∀ y∈brL o,y.length=1:=λy hy=>by obtain ⟨u,_,rfl⟩:=List.mem_map.1 hy; rfl
theorem brL_oneC (o:List Bool):∀ y∈brL o, ∀ u∈y,u.oneCell'=true:=λy hy u hu=>by
 obtain ⟨w,_,rfl⟩:=List.mem_map.1 hy
 rw [List.mem_singleton.1 hu]; rfl
theorem brL_flat (o:List Bool):(brL o).flatten=o.map .bool:=by induction o with | nil=>rfl | cons u b ih=>show Value.bool u::(brL b).flatten=_; rw [ih]; rfl
theorem BrS.full {y:Slc} {o:List Bool} (h:BrS y o) (ho:o≠[]):∃ g cap sp,y=⟨.slice (some ⟨g,0,none⟩) o.length cap,[(g,4,(o.map Value.bool++sp).toArray)]⟩∧sp.length+o.length=cap∧cap≤maxLen:=by
 rcases h.row with ⟨e,rfl⟩ | ⟨g,cap,sp,rfl,h1,h2,h3⟩
 ·have:=congrArg List.length e
  rw [brL_len] at this
  exact (ho (List.eq_nil_of_length_eq_zero this)).elim
 ·rw [brL_flat,brL_len]
  rw [brL_len] at h1
  exact ⟨g,cap,sp,rfl,by omega,h3⟩
theorem BrS.mk {g n cap:Nat} {o:List Bool} {cs sp:List Value} (hc:cs=o.map Value.bool++sp) (hn:o.length=n) (hs:sp.length+n=cap) (hm:cap≤maxLen):BrS ⟨.slice (some ⟨g,0,none⟩) n cap,[(g,4,cs.toArray)]⟩ o:=by
 subst hn
 subst hc
 refine Slc.Is.mk' (brL_one o) (brL_oneC o) (brL_len o) ?_ ?_ (by omega) hm
 ·rw [brL_flat,Nat.mul_one,List.take_left' (by simp)]
 ·rw [List.length_append,List.length_map]; omega
end Pg
end
section
namespace Pg
open Go.RowKit Sy
set_option maxRecDepth 100000
set_option maxHeartbeats 4000000
open Wr
theorem set_mid (A B:List Value) (x v:Value) (n:Nat) (h:A.length=n):((A++x::B).toArray).setIfInBounds n v=(A++v::B).toArray:=by
 subst h
 simp
theorem get_mid (A B:List Value) (x:Value) (n:Nat) (h:A.length=n):((A++x::B).toArray)[n]? = some x:=by
 subst h
 simp
theorem take_else {o:List Bool} {c:UInt8} (h1:¬ c.toNat=106) (h2:¬ c.toNat=107) (h3:¬ c.toNat=108):take o c=some o:=by unfold take; rw [if_neg h1,if_neg h2,if_neg h3]
theorem take_nil (w0:Base) (g:Nat) (y:Slc) (T:Blocks) (c:UInt8) (hy:BrS y []) (w:World) (hw:St w0 w (TKS g y T)):Calls Tryz.prog 41 #[ptr g,bv c] w (Turns w0 (TkR g T (take [] c))):=by
 have hc:=c.toNat_lt
 refine Sy.enterT (args:=[ptr g,bv c]) hw Tryz.func41 rfl kL ?_
 refine sC ?_
 refine sP (.bool false) ?_
 refine sA ?_
 refine sp rfl<|sp rfl<|sS y.v (qc 0 0 rfl rfl Tryz.underlying88)<|sS (.int .i64 0) (Quiet.lenR hy (show (brL []).length=0 from rfl) _ Tryz.underlying88 rfl rfl)<|sP (.int .i64 (-1))<|sp rfl ?_
 refine sG<|Sy.seq<|sC ?_
 refine sp rfl ?_
 refine sG<|Sy.block<|sC ?_
 obtain ⟨b1,hb1⟩:∃ z:Bool,z=decide (c.toNat=106):=⟨_,rfl⟩
 refine sS (.bool b1) (Quiet.pure (exec_int .eql _ _ _ .u8 _ _ _ rfl rfl rfl (int_eql _ _ _ _ _ (by rw [hb1]; exact decide_eq_decide.2 (by omega)))))<|sp rfl ?_
 refine sG ?_
 cases b1
 case' true =>
  have l1:c.toNat=106:=of_decide_eq_true hb1.symm
  refine sT<|Sy.region ?_
  refine sp rfl<|sp rfl<|sp rfl<|sS y.v (qc 0 0 rfl rfl Tryz.underlying88) ?_
  refine Sy.make kR 4 #[.bool false] (λg=>.slice (some ⟨g,0,none⟩) 1 1) kF (λg1=>?_)
  refine Sy.movT ?_
  refine Sy.appendR kR 88 4 _ _ 1 1 Tryz.underlying88 info_bo rfl rfl rfl rfl (by decide) _ _ rfl hy kR [.bool false] rfl (λu hu=>by rw [List.mem_singleton.1 hu]; rfl) 1 g1 4 kR kR (by rw [brL_len]; simp <;> omega) (by rw [brL_len]; simp [maxLen] <;> omega) (λr hr=>?_)
  refine sp rfl<|sw 0 rfl #[r.v] (Writes.one 0 88 r.v _ _ rfl kR kR kR hr.cells.1 hr.cells.2 Nat.zero_lt_one kR) ?_
  refine Sy.setT ?_
  refine Sy.nil<|Sy.in_<|Sy.then_<|sC ?_
  refine sP (.bool true) ?_
  refine sG<|Sy.ret ?_
  exact Sy.retT1 (TKS g r T) rfl (.inl (show _=some (.bool true) by kernel_rfl)) (λw h=>keep1 h) (by
   have e:take [] c=some ([]++[false]):=by unfold take; rw [if_pos l1]
   rw [e]
   refine ⟨rfl,r,rfl,λo' ho=>?_⟩
   cases ho
   have e3:brL ([]++[false])=brL []++[[.bool false]]:=List.map_append
   show r.Is _ 1 (brL _)
   rw [e3]
   exact hr)
 have l1:¬ c.toNat=106:=of_decide_eq_false hb1.symm
 refine sU<|sC ?_
 obtain ⟨b2,hb2⟩:∃ z:Bool,z=decide (c.toNat=107):=⟨_,rfl⟩
 refine sS (.bool b2) (Quiet.pure (exec_int .eql _ _ _ .u8 _ _ _ rfl rfl rfl (int_eql _ _ _ _ _ (by rw [hb2]; exact decide_eq_decide.2 (by omega)))))<|sp rfl ?_
 refine sG ?_
 cases b2
 case' true =>
  have l2:c.toNat=107:=of_decide_eq_true hb2.symm
  refine sT<|Sy.seq<|sC ?_
  refine sp rfl<|sP (.bool true)<|sp rfl<|sN<|sN<|sN<|sN<|sN<|sN<|sP (.bool true) ?_
  refine sG<|sT<|sC ?_
  refine sP (.bool false) ?_
  refine sG<|Sy.ret<|Sy.then_ret<|Sy.in_ret<|Sy.then_ret ?_
  exact Sy.retT1 (TKS g y T) rfl (.inl (show _=some (.bool false) by kernel_rfl)) (λw h=>h) (by
   have e:take [] c=none:=by unfold take; rw [if_neg l1,if_pos l2,if_pos (.inl rfl)]
   rw [e]
   exact ⟨rfl,y,rfl,λo' ho=>by cases ho⟩)
 have l2:¬ c.toNat=107:=of_decide_eq_false hb2.symm
 refine sU<|sC ?_
 obtain ⟨b3,hb3⟩:∃ z:Bool,z=decide (c.toNat=108):=⟨_,rfl⟩
 refine sS (.bool b3) (Quiet.pure (exec_int .eql _ _ _ .u8 _ _ _ rfl rfl rfl (int_eql _ _ _ _ _ (by rw [hb3]; exact decide_eq_decide.2 (by omega)))))<|sp rfl ?_
 refine sG ?_
 cases b3
 case' true =>
  have l3:c.toNat=108:=of_decide_eq_true hb3.symm
  refine sT<|Sy.seq<|sC ?_
  refine sp rfl<|sP (.bool true) ?_
  refine sG<|sT<|sC ?_
  refine sP (.bool false) ?_
  refine sG<|Sy.ret<|Sy.then_ret<|Sy.in_ret<|Sy.then_ret ?_
  exact Sy.retT1 (TKS g y T) rfl (.inl (show _=some (.bool false) by kernel_rfl)) (λw h=>h) (by
   have e:take [] c=none:=by unfold take; rw [if_neg l1,if_neg l2,if_pos l3,if_pos rfl]
   rw [e]
   exact ⟨rfl,y,rfl,λo' ho=>by cases ho⟩)
 have l3:¬ c.toNat=108:=of_decide_eq_false hb3.symm
 refine sU<|Sy.skip<|Sy.in_<|Sy.then_<|sC ?_
 refine sP (.bool true) ?_
 refine sG<|Sy.ret ?_
 exact Sy.retT1 (TKS g y T) rfl (.inl (show _=some (.bool true) by kernel_rfl)) (λw h=>h) (by
  rw [take_else l1 l2 l3]
  refine ⟨rfl,_,rfl,λo' ho=>?_⟩
  cases ho
  exact hy)
theorem take_snoc (w0:Base) (g:Nat) (y:Slc) (T:Blocks) (c:UInt8) (d:List Bool) (x:Bool) (hy:BrS y (d++[x])) (hl:d.length≤1000) (w:World) (hw:St w0 w (TKS g y T)):Calls Tryz.prog 41 #[ptr g,bv c] w (Turns w0 (TkR g T (take (d++[x]) c))):=by
 obtain ⟨m,hm⟩:∃ m,m=d.length:=⟨_,rfl⟩
 obtain ⟨g2,cap,rr,rfl,h1,h2⟩:=hy.full (by simp)
 have e0:(d++[x]).length=m+1:=by rw [List.length_append, ← hm]; rfl
 have e1:((d++[x]).map Value.bool++rr)=d.map Value.bool++(Value.bool x::rr):=by simp
 have e2:(d.map Value.bool).length=m:=by rw [List.length_map,hm]
 rw [e0,e1] at hw hy
 rw [e0] at h1
 have hmx:m+1≤cap:=by omega
 have hc:=c.toNat_lt
 refine Sy.enterT (args:=[ptr g,bv c]) hw Tryz.func41 rfl kL ?_
 refine sC ?_
 refine sP (.bool false) ?_
 refine sA ?_
 refine sp rfl<|sp rfl<|sS (.slice (some ⟨g2,0,none⟩) (m+1) cap) (qc 0 0 rfl rfl Tryz.underlying88)<|sS (.int .i64 ((m+1:Nat):Int)) (Quiet.lenR hy (by rw [brL_len]; exact e0) _ Tryz.underlying88 rfl rfl)<|sS (.int .i64 ((m:Nat):Int)) (Quiet.pure (exec_int .sub _ _ _ .i64 _ _ _ rfl rfl rfl (int_sub _ _ _ _ _ ((wrap_i64 (by omega) (by omega)).trans (by omega)))))<|sp rfl ?_
 refine sG<|Sy.seq<|sC ?_
 refine sp rfl ?_
 refine sG<|Sy.block<|sC ?_
 obtain ⟨b1,hb1⟩:∃ z:Bool,z=decide (c.toNat=106):=⟨_,rfl⟩
 refine sS (.bool b1) (Quiet.pure (exec_int .eql _ _ _ .u8 _ _ _ rfl rfl rfl (int_eql _ _ _ _ _ (by rw [hb1]; exact decide_eq_decide.2 (by omega)))))<|sp rfl ?_
 refine sG ?_
 cases b1
 case' true =>
  have l1:c.toNat=106:=of_decide_eq_true hb1.symm
  refine sT<|Sy.region ?_
  refine sp rfl<|sp rfl<|sp rfl<|sS (.slice (some ⟨g2,0,none⟩) (m+1) cap) (qc 0 0 rfl rfl Tryz.underlying88) ?_
  refine Sy.make kR 4 #[.bool false] (λg=>.slice (some ⟨g,0,none⟩) 1 1) kF (λg1=>?_)
  refine Sy.movT ?_
  refine Sy.appendR kR 88 4 _ _ 1 1 Tryz.underlying88 info_bo rfl rfl rfl rfl (by decide) _ _ rfl hy kR [.bool false] rfl (λu hu=>by rw [List.mem_singleton.1 hu]; rfl) 1 g1 4 kR kR (by rw [brL_len]; simp <;> omega) (by rw [brL_len]; simp [maxLen] <;> omega) (λr hr=>?_)
  refine sp rfl<|sw 0 rfl #[r.v] (Writes.one 0 88 r.v _ _ rfl kR kR kR hr.cells.1 hr.cells.2 Nat.zero_lt_one kR) ?_
  refine Sy.setT ?_
  refine Sy.nil<|Sy.in_<|Sy.then_<|sC ?_
  refine sP (.bool true) ?_
  refine sG<|Sy.ret ?_
  exact Sy.retT1 (TKS g r T) rfl (.inl (show _=some (.bool true) by kernel_rfl)) (λw h=>keep1 h) (by
   have e:take (d++[x]) c=some ((d++[x])++[false]):=by unfold take; rw [if_pos l1]
   rw [e]
   refine ⟨rfl,r,rfl,λo' ho=>?_⟩
   cases ho
   have e3:brL ((d++[x])++[false])=brL (d++[x])++[[.bool false]]:=List.map_append
   show r.Is _ 1 (brL _)
   rw [e3]
   exact hr)
 have l1:¬ c.toNat=106:=of_decide_eq_false hb1.symm
 refine sU<|sC ?_
 obtain ⟨b2,hb2⟩:∃ z:Bool,z=decide (c.toNat=107):=⟨_,rfl⟩
 refine sS (.bool b2) (Quiet.pure (exec_int .eql _ _ _ .u8 _ _ _ rfl rfl rfl (int_eql _ _ _ _ _ (by rw [hb2]; exact decide_eq_decide.2 (by omega)))))<|sp rfl ?_
 refine sG ?_
 cases b2
 case' true =>
  have l2:c.toNat=107:=of_decide_eq_true hb2.symm
  refine sT<|Sy.seq<|sC ?_
  refine sp rfl<|sS (.bool false) (Quiet.pure (exec_int .lss _ _ _ .i64 _ _ _ rfl rfl rfl (int_lss _ _ _ _ _ (decide_eq_false (by omega)))))<|sp rfl<|sp rfl<|sp rfl<|sS (.slice (some ⟨g2,0,none⟩) (m+1) cap) (qc 0 0 rfl rfl Tryz.underlying88)<|sp rfl<|sS (.pointer (some ⟨g2,0+m*1,none⟩)) (Quiet.pure (exec_at 88 4 _ _ g2 0 (m+1) cap m 1 .i64 rfl rfl rfl Tryz.underlying88 kF (by omega)))<|sS (.bool x) (Quiet.cell 1 g2 (0+m*1) 4 4 _ _ _ rfl rfl rfl Tryz.underlying4 rfl _ (by rw [show 0+m*1=m by omega]; exact get_mid _ _ _ _ e2))<|sP (.bool x) ?_
  refine sG ?_
  cases x
  case' true =>
   refine sT<|sC ?_
   refine sP (.bool false) ?_
   refine sG<|Sy.ret<|Sy.then_ret<|Sy.in_ret<|Sy.then_ret ?_
   exact Sy.retT1 (TKS g ⟨.slice (some ⟨g2,0,none⟩) (m+1) cap,[(g2,4,(d.map Value.bool++(Value.bool true::rr)).toArray)]⟩ T) rfl (.inl (show _=some (.bool false) by kernel_rfl)) (λw h=>h) (by
    have e:take (d++[true]) c=none:=by unfold take; rw [if_neg l1,if_pos l2,if_pos (.inr (by simp))]
    rw [e]
    exact ⟨rfl,_,rfl,λo' ho=>by cases ho⟩)
  refine sU<|Sy.skip<|Sy.then_<|Sy.region ?_
  refine sp rfl<|sp rfl<|sS (.slice (some ⟨g2,0,none⟩) (m+1) cap) (qc 0 0 rfl rfl Tryz.underlying88)<|sp rfl<|sS (.pointer (some ⟨g2,0+m*1,none⟩)) (Quiet.pure (exec_at 88 4 _ _ g2 0 (m+1) cap m 1 .i64 rfl rfl rfl Tryz.underlying88 kF (by omega))) ?_
  refine sw 1 rfl (d.map Value.bool++(Value.bool true::rr)).toArray (Writes.one (0+m*1) 4 (.bool true) _ _ rfl rfl rfl kR rfl rfl (by simp; omega) (by rw [show 0+m*1=m by omega]; exact set_mid _ _ _ _ _ e2)) ?_
  refine Sy.nil<|Sy.in_<|Sy.then_<|sC ?_
  refine sP (.bool true) ?_
  refine sG<|Sy.ret ?_
  exact Sy.retT1 (TKS g ⟨.slice (some ⟨g2,0,none⟩) (m+1) cap,[(g2,4,(d.map Value.bool++(Value.bool true::rr)).toArray)]⟩ T) rfl (.inl (show _=some (.bool true) by kernel_rfl)) (λw h=>h) (by
   have e:take (d++[false]) c=some (d++[true]):=by unfold take; rw [if_neg l1,if_pos l2,if_neg (by simp)]; simp
   rw [e]
   refine ⟨rfl,_,rfl,λo' ho=>?_⟩
   cases ho
   exact BrS.mk (sp:=rr) (by simp) (by simp [← hm]) (by omega) h2)
 have l2:¬ c.toNat=107:=of_decide_eq_false hb2.symm
 refine sU<|sC ?_
 obtain ⟨b3,hb3⟩:∃ z:Bool,z=decide (c.toNat=108):=⟨_,rfl⟩
 refine sS (.bool b3) (Quiet.pure (exec_int .eql _ _ _ .u8 _ _ _ rfl rfl rfl (int_eql _ _ _ _ _ (by rw [hb3]; exact decide_eq_decide.2 (by omega)))))<|sp rfl ?_
 refine sG ?_
 cases b3
 case' true =>
  have l3:c.toNat=108:=of_decide_eq_true hb3.symm
  refine sT<|Sy.seq<|sC ?_
  refine sp rfl<|sS (.bool false) (Quiet.pure (exec_int .lss _ _ _ .i64 _ _ _ rfl rfl rfl (int_lss _ _ _ _ _ (decide_eq_false (by omega))))) ?_
  refine sG<|sU<|Sy.skip<|Sy.then_<|Sy.region ?_
  refine sp rfl<|sp rfl<|sp rfl<|sS (.slice (some ⟨g2,0,none⟩) (m+1) cap) (qc 0 0 rfl rfl Tryz.underlying88)<|sp rfl<|sS (.slice (some ⟨g2,0,none⟩) m cap) (Quiet.pure (exec_upto 88 _ _ g2 0 (m+1) cap m 1 .i64 rfl rfl rfl Tryz.underlying88 kF (by omega)))<|sp rfl ?_
  refine sw 0 rfl #[.slice (some ⟨g2,0,none⟩) m cap] (Writes.one 0 88 (.slice (some ⟨g2,0,none⟩) m cap) _ _ rfl kR kR kR rfl rfl Nat.zero_lt_one kR) ?_
  refine Sy.nil<|Sy.in_<|Sy.then_<|sC ?_
  refine sP (.bool true) ?_
  refine sG<|Sy.ret ?_
  exact Sy.retT1 (TKS g ⟨.slice (some ⟨g2,0,none⟩) m cap,[(g2,4,(d.map Value.bool++(Value.bool x::rr)).toArray)]⟩ T) rfl (.inl (show _=some (.bool true) by kernel_rfl)) (λw h=>h) (by
   have e:take (d++[x]) c=some d:=by unfold take; rw [if_neg l1,if_neg l2,if_pos l3,if_neg (by simp)]; simp
   rw [e]
   refine ⟨rfl,_,rfl,λo' ho=>?_⟩
   cases ho
   exact BrS.mk (sp:=Value.bool x::rr) rfl hm.symm (by rw [List.length_cons]; omega) h2)
 have l3:¬ c.toNat=108:=of_decide_eq_false hb3.symm
 refine sU<|Sy.skip<|Sy.in_<|Sy.then_<|sC ?_
 refine sP (.bool true) ?_
 refine sG<|Sy.ret ?_
 exact Sy.retT1 (TKS g ⟨.slice (some ⟨g2,0,none⟩) (m+1) cap,[(g2,4,(d.map Value.bool++(Value.bool x::rr)).toArray)]⟩ T) rfl (.inl (show _=some (.bool true) by kernel_rfl)) (λw h=>h) (by
  rw [take_else l1 l2 l3]
  refine ⟨rfl,_,rfl,λo' ho=>?_⟩
  cases ho
  exact hy)
theorem take_any (w0:Base) (g:Nat) (y:Slc) (T:Blocks) (o:List Bool) (c:UInt8) (hy:BrS y o) (hl:o.length≤1000) (w:World) (hw:St w0 w (TKS g y T)):Calls Tryz.prog 41 #[ptr g,bv c] w (Turns w0 (TkR g T (take o c))):=by
 rcases List.eq_nil_or_concat o with rfl | ⟨d,x,rfl⟩
 ·exact take_nil w0 g y T c hy w hw
 ·rw [List.concat_eq_append] at hy hl ⊢
  exact take_snoc w0 g y T c d x hy (by rw [List.length_append] at hl; omega) w hw
end Pg
end
section
namespace Sy
open Go.RowKit
section
variable {P:Program} {w0:Base} {n:Nat} {Q:Exit→Act→World→Prop} {F:Slots} {L:Blocks}
end
section
variable {pre A B C D M N:Blocks}
end
end Sy
end
section
namespace Sy
open Go.RowKit
section
variable {r:Nat→Slc} {n i:Nat} {pre A B C D M N T:Blocks} {b b':Nat×TypeId×Array Value} {v:Value} {w0:Base} {w:World}
end
end Sy
end
section
namespace Sy
open Go.RowKit
section
variable {L M:Blocks} {w0:Base} {w:World}
theorem flat_perm {ls ms:List Blocks} (is:List Nat) (hi:is.isPerm (List.range ls.length)=true) (hm:is.map (λi=>ls[i]?)=ms.map some) (hL:L=ls.flatten) (hM:M=ms.flatten):L.Perm M:=by
 rw [hL,hM]
 exact (perm_at is hi hm).flatten
theorem St.parts {ls ms:List Blocks} (os:List Blocks) (is:List Nat) (hi:is.isPerm (List.range ls.length)=true) (hm:is.map (λi=>ls[i]?)=(ms++os).map some) (hL:L=ls.flatten) (hM:M=ms.flatten) (hw:St w0 w L):St w0 w M:=by
 have h1:L.Perm (M++os.flatten):=by
  rw [hL,hM, ← List.flatten_append]
  exact (perm_at is hi hm).flatten
 exact (hw.perm h1).less (List.sublist_append_left _ _)
end
section
variable {f:Nat→List Value} {s m k o:Nat} {sp:List Value}
end
section
variable {r:Nat→Slc} {n i:Nat} {pre M R D E:Blocks} {b:Nat×TypeId×Array Value} {v:Value} {w0:Base} {w:World}
end
end Sy
end
section
namespace Pg
open Go.RowKit Sy
set_option maxRecDepth 100000
set_option maxHeartbeats 4000000
open Wr
noncomputable def infOp:TypeInfo:=(Tryz.prog.info? 92).getD default
theorem info_op:Tryz.prog.info? 92=some infOp:=by kernel_rfl
def opL (xs:List (Value×Opn)):List (List Value):=xs.map λz=>[bv z.2.1,z.1]
theorem opL_len (xs:List (Value×Opn)):(opL xs).length=xs.length:=List.length_map _
structure OpsY (C:Rdr) (y:Slc) (xs:List (Value×Opn)):Prop where
 row:y.Is 92 2 (opL xs)
 byt:∀ z∈xs,BytR C z.1 z.2.2
theorem OpsY.nil (C:Rdr):OpsY C nilS []:=⟨Slc.Is.nil _ _,λ_ h=>by cases h⟩
theorem OpsY.add {C:Rdr} {y y':Slc} {xs:List (Value×Opn)} {c:UInt8} {v:Value} {b:Byt} (h:OpsY C y xs) (hy:y'.Is 92 2 (opL xs++[[bv c,v]])) (hv:BytR C v b):OpsY C y' (xs++[(v,(c,b))]):=by
 refine ⟨?_,λz hz=>?_⟩
 ·have e:opL (xs++[(v,(c,b))])=opL xs++[[bv c,v]]:=List.map_append
  rw [e]; exact hy
 ·rcases List.mem_append.1 hz with hz | hz
  ·exact h.byt z hz
  ·rw [List.mem_singleton.1 hz]; exact hv
def PaR (C:Rdr) (L:Blocks) (q:Nat×List Opn) (v:Value) (M:Blocks):Prop:=∃ y xs,v=.tuple #[y.v,.int .i64 ((q.1:Nat):Int)]∧M=L++y.bl∧OpsY C y xs∧q.2=xs.map (·.2)
theorem PaR.no {C:Rdr} {L:Blocks} {n:Nat}:PaR C L (n,[]) (.tuple #[.slice none 0 0,.int .i64 ((n:Nat):Int)]) L:=⟨nilS,[],rfl,(List.append_nil _).symm,OpsY.nil C,rfl⟩
theorem two_one {c:UInt8} {v:Value} (h:v.oneCell'=true):∀ u∈[bv c,v],u.oneCell'=true:=λu hu=>by
 rcases List.mem_cons.1 hu with rfl | hu
 ·rfl
 ·rw [List.mem_singleton.1 hu]; exact h
theorem take_len {o o':List Bool} {c:UInt8} (h:take o c=some o'):o'.length≤o.length+1:=by
 unfold take at h
 split at h
 ·cases h; simp
 ·split at h
  ·split at h
   ·cases h
   ·cases h; simp
  ·split at h
   ·split at h
    ·cases h
    ·cases h; simp; omega
   ·cases h; omega
structure PY where
 yo:Slc
 o:List Bool
 y:Slc
 xs:List (Value×Opn)
 v:Value
 p:Byt
structure PH (C:Rdr) (p0:Byt) (k:Nat) (z:PY):Prop where
 ho:BrS z.yo z.o
 hy:OpsY C z.y z.xs
 hv:BytR C z.v z.p
 e:par p0 []=fin (z.xs.map (·.2)) (par z.p z.o)
 n1:z.p.length+k≤p0.length
 n2:z.o.length≤k
 n3:z.xs.length≤k
theorem parse_any (w0:Base) (L R:Blocks) (v:Value) (p:Byt) (hR:∀ b∈R,b∈L) (hv:BytR (rdC w0 R) v p) (w:World) (hw:St w0 w L):Calls Tryz.prog 24 #[v] w (Turns w0 (PaR (rdC w0 R) L (parse p))):=by
 have hv0:=hv
 obtain ⟨A,n,cp,rfl,h2,h3,h4,h5⟩:=hv
 refine Sy.enterT (args:=[.slice A n cp]) hw Tryz.func24 rfl kL ?_
 have hmx:cp<9223372036854775808:=by simp only [maxLen] at h4; omega
 refine sC ?_
 refine sP (.slice none 0 0)<|sP (.int .i64 0) ?_
 refine sG<|Sy.seq<|sC ?_
 obtain ⟨b1,hb1⟩:∃ z:Bool,z=decide (256<n):=⟨_,rfl⟩
 refine sp rfl<|sP (.int .i64 (n:Int))<|sS (.bool b1) (Quiet.pure (exec_int .gtr _ _ _ .i64 _ _ _ rfl rfl rfl (int_gtr _ _ _ _ _ (by rw [hb1]; exact decide_eq_decide.2 (by omega))))) ?_
 refine sG ?_
 cases b1
 case' true =>
  have l1:256<n:=of_decide_eq_true hb1.symm
  refine sT<|sC ?_
  refine sP (.slice none 0 0)<|sP (.int .i64 130) ?_
  refine sG<|Sy.ret<|Sy.then_ret ?_
  have e:parse p=(130,[]):=by unfold parse; rw [if_pos (by omega)]
  rw [e]
  exact Sy.retT2 L rfl (.inl (show _=_ by kernel_rfl)) (.inl (show _=_ by kernel_rfl)) (λ_ h=>h) PaR.no
 have l1:¬ 256<n:=of_decide_eq_false hb1.symm
 have ep:parse p=par p []:=by unfold parse; rw [if_neg (by omega)]; rfl
 rw [ep]
 refine sU<|Sy.skip<|Sy.then_<|sC ?_
 refine sP (.slice none 0 0) ?_
 refine sG<|sC ?_
 refine sM 88 #[.slice none 0 0] (λgO=>?_)
 refine sG<|Sy.seq<|Sy.block ?_
 refine Sy.loopT (Y:=PY) n (λk z=>[(0,z.v),(4,z.y.v),(5,ptr gO)]) (λk z=>TKS gO z.yo (z.y.bl++L)) (PH (rdC w0 R) p) ⟨nilS,[],nilS,[],.slice A n cp,p⟩ ⟨Slc.Is.nil _ _,OpsY.nil _,hv0,by rw [List.map_nil]; exact (fin_nil _ _ _).symm,by simp,by simp,by simp⟩ (all_cons kR (all_cons kR (all_cons kR all_nil))) (λw h=>h.perm List.perm_append_comm) (λk0 z hk0 hz=>?_)
 obtain ⟨yo,o0,y,xs,v1,p1⟩:=z
 obtain ⟨ho,hy,hv1,he,n1,n2,n3⟩:=hz
 dsimp only at ho hy hv1 he n1 n2 n3 ⊢
 have hv2:=hv1
 obtain ⟨A1,m,cp1,rfl,q2,q3,q4,q5⟩:=hv1
 have hmx1:cp1<9223372036854775808:=by simp only [maxLen] at q4; omega
 refine Sy.seq<|sC ?_
 obtain ⟨b2,hb2⟩:∃ z:Bool,z=decide (0<m):=⟨_,rfl⟩
 refine sp rfl<|sP (.int .i64 (m:Int))<|sS (.bool b2) (Quiet.pure (exec_int .gtr _ _ _ .i64 _ _ _ rfl rfl rfl (int_gtr _ _ _ _ _ (by rw [hb2]; exact decide_eq_decide.2 (by omega))))) ?_
 refine sG ?_
 cases b2
 case' false =>
  have l2:¬ 0<m:=of_decide_eq_false hb2.symm
  obtain rfl:p1=[]:=List.eq_nil_of_length_eq_zero (by omega)
  refine sU<|Sy.exit<|Sy.then_exit<|Sy.then_exit<|Sy.in_exit<|Sy.then_<|Sy.seq<|sC ?_
  obtain ⟨b3,hb3⟩:∃ z:Bool,z=decide (0<o0.length):=⟨_,rfl⟩
  refine sS yo.v (qc 0 0 rfl rfl Tryz.underlying88)<|sS (.int .i64 ((o0.length:Nat):Int)) (Quiet.lenR ho (brL_len o0) _ Tryz.underlying88 rfl rfl)<|sS (.bool b3) (Quiet.pure (exec_int .gtr _ _ _ .i64 _ _ _ rfl rfl rfl (int_gtr _ _ _ _ _ (by rw [hb3]; exact decide_eq_decide.2 (by omega))))) ?_
  refine sG ?_
  cases b3
  case' true =>
   have l3:0<o0.length:=of_decide_eq_true hb3.symm
   refine sT<|sC ?_
   refine sP (.slice none 0 0)<|sP (.int .i64 135) ?_
   refine sG<|Sy.ret<|Sy.then_ret ?_
   have e:par p []=(135,[]):=by
    rw [he,par_nil,if_neg (by intro e; rw [e] at l3; simp at l3)]; rfl
   rw [e]
   exact Sy.retT2 L rfl (.inl (show _=_ by kernel_rfl)) (.inl (show _=_ by kernel_rfl)) (λw h=>(Sy.St.parts (ls:=[[(gO,88,#[yo.v])],yo.bl,y.bl,L]) (ms:=[L]) [[(gO,88,#[yo.v])],yo.bl,y.bl] [3,0,1,2] kR rfl (by simp) (by simp) h)) PaR.no
  have l3:¬ 0<o0.length:=of_decide_eq_false hb3.symm
  obtain rfl:o0=[]:=List.eq_nil_of_length_eq_zero (by omega)
  refine sU<|Sy.skip<|Sy.then_<|sC ?_
  refine sp rfl<|sp rfl<|sP (.int .i64 0) ?_
  refine sG<|Sy.ret ?_
  have e:par p []=(0,xs.map (·.2)):=by
   rw [he,par_nil,if_pos rfl]
   show (0,_++[])=_
   rw [List.append_nil]
  rw [e]
  exact Sy.retT2 (L++y.bl) rfl (.inl (show _=some y.v by kernel_rfl)) (.inl (show _=some (.int .i64 0) by kernel_rfl)) (λw h=>(Sy.St.parts (ls:=[[(gO,88,#[yo.v])],yo.bl,y.bl,L]) (ms:=[L,y.bl]) [[(gO,88,#[yo.v])],yo.bl] [3,2,0,1] kR rfl (by simp) (by simp) h)) ⟨y,xs,rfl,rfl,hy,rfl⟩
 have l2:0<m:=of_decide_eq_true hb2.symm
 obtain ⟨c,r,rfl⟩:∃ c r,p1=c::r:=by
  cases p1 with
  | nil=>simp at q2; omega
  | cons c r=>exact ⟨c,r,rfl⟩
 obtain ⟨g,o,rfl,hq⟩:=q5 (by simp)
 have hc0:rdC w0 R g (o+0*1) (bv c):=hq 0 c rfl
 have hr:r.length+1=m:=by rw [← q2]; rfl
 have hcl:=c.toNat_lt
 refine sT<|Sy.skip<|Sy.then_<|Sy.block<|sC ?_
 have RL:∀ b∈R,b∈TKS gO yo (y.bl++L):=λb hb=>List.mem_append_right _ (List.mem_append_right _ (List.mem_append_right _ (hR b hb)))
 refine sp rfl<|sS (.pointer (some ⟨g,o+0*1,none⟩)) (Quiet.pure (exec_at 22 5 _ _ g o m cp1 0 1 .i64 rfl rfl rfl Tryz.underlying22 kF l2))<|sS (bv c) (cellC (R:=R) hc0 RL rfl Tryz.underlying5) ?_
 rcases hf:follow c with _ | k
 case' none =>
  refine sS (.tuple #[.int .i64 0,.bool false]) (by
   have e:folV c=.tuple #[.int .i64 0,.bool false]:=by unfold folV; rw [hf]; rfl
   rw [← e]; exact qg (λw _=>follow_any w c))<|sp rfl<|sp rfl<|sp rfl<|sp rfl<|sp rfl ?_
  refine sG<|Sy.seq<|sC ?_
  refine sp rfl<|sP (.bool true)<|sp rfl<|sN<|sN<|sN<|sN<|sN<|sP (.bool true) ?_
  refine sG<|sT<|sC ?_
  refine sP (.slice none 0 0)<|sP (.int .i64 131) ?_
  refine sG<|Sy.ret<|Sy.then_ret<|Sy.in_ret<|Sy.then_ret<|Sy.in_ret<|Sy.then_ret ?_
  have e:par p []=(131,[]):=by rw [he,par_no hf]; rfl
  rw [e]
  exact Sy.retT2 L rfl (.inl (show _=_ by kernel_rfl)) (.inl (show _=_ by kernel_rfl)) (λw h=>(Sy.St.parts (ls:=[[(gO,88,#[yo.v])],yo.bl,y.bl,L]) (ms:=[L]) [[(gO,88,#[yo.v])],yo.bl,y.bl] [3,0,1,2] kR rfl (by simp) (by simp) h)) PaR.no
 have hk9:k≤255:=by
  unfold follow at hf
  split at hf
  ·cases hf; omega
  ·split at hf
   ·cases hf; omega
   ·split at hf
    ·cases hf; omega
    ·cases hf
 refine sS (.tuple #[.int .i64 (k:Int),.bool true]) (by
  have e:folV c=.tuple #[.int .i64 (k:Int),.bool true]:=by unfold folV; rw [hf]; rfl
  rw [← e]; exact qg (λw _=>follow_any w c))<|sp rfl<|sp rfl<|sp rfl<|sp rfl<|sp rfl ?_
 refine sG<|Sy.seq<|sC ?_
 obtain ⟨b4,hb4⟩:∃ z:Bool,z=decide (m<1+k):=⟨_,rfl⟩
 refine sp rfl<|sP (.bool false)<|sp rfl<|sp rfl<|sP (.int .i64 (m:Int))<|sp rfl<|sS (.int .i64 ((1+k:Nat):Int)) (Quiet.pure (exec_int .add _ _ _ .i64 _ _ _ rfl rfl rfl (int_add _ _ _ _ _ ((wrap_i64 (by omega) (by omega)).trans (by omega)))))<|sS (.bool b4) (Quiet.pure (exec_int .lss _ _ _ .i64 _ _ _ rfl rfl rfl (int_lss _ _ _ _ _ (by rw [hb4]; exact decide_eq_decide.2 (by omega)))))<|sP (.bool b4) ?_
 refine sG ?_
 cases b4
 case' true =>
  have l4:m<1+k:=of_decide_eq_true hb4.symm
  refine sT<|sC ?_
  refine sP (.slice none 0 0)<|sP (.int .i64 131) ?_
  refine sG<|Sy.ret<|Sy.then_ret<|Sy.in_ret<|Sy.then_ret<|Sy.in_ret<|Sy.then_ret ?_
  have e:par p []=(131,[]):=by rw [he,par_short hf (by omega)]; rfl
  rw [e]
  exact Sy.retT2 L rfl (.inl (show _=_ by kernel_rfl)) (.inl (show _=_ by kernel_rfl)) (λw h=>(Sy.St.parts (ls:=[[(gO,88,#[yo.v])],yo.bl,y.bl,L]) (ms:=[L]) [[(gO,88,#[yo.v])],yo.bl,y.bl] [3,0,1,2] kR rfl (by simp) (by simp) h)) PaR.no
 have l4:¬ m<1+k:=of_decide_eq_false hb4.symm
 refine sU<|Sy.skip<|Sy.then_<|Sy.seq ?_
 refine Sy.regionD (λj=>j == 9) kR ?_
 refine sa 0 rfl rfl<|sv 1 rfl (.pointer (some ⟨g,o+0*1,none⟩)) (exec_at 22 5 _ _ g o m cp1 0 1 .i64 rfl rfl rfl Tryz.underlying22 kF l2)<|sD 2 rfl (bv c) (cellC (R:=R) hc0 RL rfl Tryz.underlying5)<|sa 3 rfl rfl<|sa 4 rfl rfl<|sv 5 rfl (.int .i64 ((1+k:Nat):Int)) (exec_int .add _ _ _ .i64 _ _ _ rfl rfl rfl (int_add _ _ _ _ _ ((wrap_i64 (by omega) (by omega)).trans (by omega))))<|sv 6 rfl (sliced (some ⟨g,o,none⟩) 1 (1+k) cp1 1) (exec_slh _ _ _ (some ⟨g,o,none⟩) m cp1 1 (1+k) rfl rfl rfl rfl (by omega) (by omega))<|sb 7 rfl (.agg #[bv c,sliced (some ⟨g,o,none⟩) 1 (1+k) cp1 1]) ?_
 refine Sy.makeD 8 rfl kR kR 92 #[.int .u8 0,.slice none 0 0] ptr kF (λg8=>?_)
 refine Sy.movTD ?_
 refine sx 9 rfl 1 rfl #[bv c,sliced (some ⟨g,o,none⟩) 1 (1+k) cp1 1] (wA rfl) ?_
 refine Sy.setTD ?_
 refine sE ?_
 refine Sy.then_<|Sy.seq<|sC ?_
 refine sP (.pointer (some ⟨g8,0,none⟩))<|sS (bv c) (qc 1 0 rfl rfl Tryz.underlying5) ?_
 refine Sy.permS (M:=TKS gO yo ([(g8,92,#[bv c,sliced (some ⟨g,o,none⟩) 1 (1+k) cp1 1])]++(y.bl++L))) (Sy.flat_perm (ls:=[[(gO,88,#[yo.v])],[(g8,92,#[bv c,sliced (some ⟨g,o,none⟩) 1 (1+k) cp1 1])],yo.bl,y.bl,L]) (ms:=[[(gO,88,#[yo.v])],yo.bl,[(g8,92,#[bv c,sliced (some ⟨g,o,none⟩) 1 (1+k) cp1 1])],y.bl,L]) [0,2,1,3,4] kR rfl (by simp) (by simp)) ?_
 have ht9:=λw hw=>take_any w0.inn gO yo ([(g8,92,#[bv c,sliced (some ⟨g,o,none⟩) 1 (1+k) cp1 1])]++(y.bl++L)) o0 c ho (by omega) w hw
 rcases ht:take o0 c with _ | o1
 case' none =>
  rw [ht] at ht9
  refine Sy.callT ht9 (λv M hM=>?_)
  obtain ⟨rfl,yo1,rfl,_⟩:=hM
  refine sP (.bool true) ?_
  refine sG<|sT<|sC ?_
  refine sP (.slice none 0 0)<|sP (.int .i64 135) ?_
  refine sG<|Sy.ret<|Sy.then_ret<|Sy.in_ret<|Sy.then_ret<|Sy.in_ret<|Sy.then_ret ?_
  have e:par p []=(135,[]):=by rw [he,par_if hf (by omega) ht]; rfl
  rw [e]
  exact Sy.retT2 L rfl (.inl (show _=_ by kernel_rfl)) (.inl (show _=_ by kernel_rfl)) (λw h=>(Sy.St.parts (ls:=[[(gO,88,#[yo1.v])],yo1.bl,[(g8,92,#[bv c,sliced (some ⟨g,o,none⟩) 1 (1+k) cp1 1])],y.bl,L]) (ms:=[L]) [[(gO,88,#[yo1.v])],yo1.bl,[(g8,92,#[bv c,sliced (some ⟨g,o,none⟩) 1 (1+k) cp1 1])],y.bl] [4,0,1,2,3] kR rfl (by simp) (by simp) h)) PaR.no
 rw [ht] at ht9
 refine Sy.callT ht9 (λv M hM=>?_)
 obtain ⟨rfl,yo1,rfl,hyo⟩:=hM
 have hyo:=hyo o1 rfl
 refine sP (.bool false) ?_
 refine sG<|sU<|Sy.skip<|Sy.then_<|sC ?_
 refine Sy.permS (M:=[(gO,88,#[yo1.v]),(g8,92,#[bv c,sliced (some ⟨g,o,none⟩) 1 (1+k) cp1 1])]++(y.bl++(yo1.bl++L))) (Sy.flat_perm (ls:=[[(gO,88,#[yo1.v])],yo1.bl,[(g8,92,#[bv c,sliced (some ⟨g,o,none⟩) 1 (1+k) cp1 1])],y.bl,L]) (ms:=[[(gO,88,#[yo1.v])],[(g8,92,#[bv c,sliced (some ⟨g,o,none⟩) 1 (1+k) cp1 1])],y.bl,yo1.bl,L]) [0,2,3,1,4] kR rfl (by simp) (by simp)) ?_
 refine sp rfl<|sS (.agg #[bv c,sliced (some ⟨g,o,none⟩) 1 (1+k) cp1 1]) (qk 1 0 2 rfl rfl Tryz.underlying92) ?_
 have hsl:(sliced (some ⟨g,o,none⟩) 1 (1+k) cp1 1).oneCell'=true:=rfl
 refine Sy.make kR 92 #[bv c,sliced (some ⟨g,o,none⟩) 1 (1+k) cp1 1] (λg=>.slice (some ⟨g,0,none⟩) 1 1) (Makes.one 60 92 _ _ 2 _ [bv c,sliced (some ⟨g,o,none⟩) 1 (1+k) cp1 1] rfl kR Tryz.underlying60 info_op rfl rfl rfl (by decide) (by decide)) (λg9=>?_)
 refine Sy.movT ?_
 refine Sy.appendR kR 60 92 _ _ 2 32 Tryz.underlying60 info_op rfl rfl rfl rfl (by decide) _ _ rfl hy.row kR [bv c,sliced (some ⟨g,o,none⟩) 1 (1+k) cp1 1] rfl (two_one hsl) 2 g9 92 kR kR (by rw [opL_len]; omega) (by rw [opL_len]; simp only [maxLen]; omega) (λy1 hy1=>?_)
 refine sp rfl ?_
 refine sG<|Sy.region ?_
 refine sp rfl<|sp rfl<|sS (.int .i64 ((1+k:Nat):Int)) (Quiet.pure (exec_int .add _ _ _ .i64 _ _ _ rfl rfl rfl (int_add _ _ _ _ _ ((wrap_i64 (by omega) (by omega)).trans (by omega)))))<|sS (sliced (some ⟨g,o,none⟩) (1+k) m cp1 1) (Quiet.pure (exec_sl _ _ _ m cp1 (1+k) rfl rfl rfl (by omega)))<|sp rfl ?_
 refine Sy.nil<|Sy.in_ ?_
 have hb2':BytR (rdC w0 R) (sliced (some ⟨g,o,none⟩) 1 (1+k) cp1 1) (r.take k):=by
  have:=hv2.slice (l:=1) (m:=1+k) (by omega) (by omega)
  rwa [List.drop_succ_cons,List.drop_zero,show 1+k - 1=k by omega] at this
 have hb3':BytR (rdC w0 R) (sliced (some ⟨g,o,none⟩) (1+k) m cp1 1) (r.drop k):=by
  have:=hv2.drop (l:=1+k) (by omega)
  rwa [Nat.add_comm,List.drop_succ_cons,Nat.add_comm] at this
 rw [List.length_cons] at n1
 have n4:=take_len ht
 exact Sy.againT ⟨yo1,o1,y1,xs++[(sliced (some ⟨g,o,none⟩) 1 (1+k) cp1 1,(c,r.take k))],sliced (some ⟨g,o,none⟩) (1+k) m cp1 1,r.drop k⟩ (by omega) ⟨hyo,hy.add hy1 hb2',hb3',by
  rw [he,par_go hf (by omega) ht,fin_fin,List.map_append]; rfl,by show (r.drop k).length+_≤_; rw [List.length_drop]; omega,by show o1.length≤_; omega,by show (xs++[_]).length≤_; rw [List.length_append,List.length_singleton]; omega⟩ (all_cons kR (all_cons kR (all_cons kR all_nil))) (λw h=>(Sy.St.parts (ls:=[[(gO,88,#[yo1.v])],[(g8,92,#[bv c,sliced (some ⟨g,o,none⟩) 1 (1+k) cp1 1])],[(g9,92,#[bv c,sliced (some ⟨g,o,none⟩) 1 (1+k) cp1 1])],y1.bl,yo1.bl,L]) (ms:=[[(gO,88,#[yo1.v])],yo1.bl,y1.bl,L]) [[(g8,92,#[bv c,sliced (some ⟨g,o,none⟩) 1 (1+k) cp1 1])],[(g9,92,#[bv c,sliced (some ⟨g,o,none⟩) 1 (1+k) cp1 1])]] [0,4,3,5,1,2] kR rfl (by simp) (by simp) h))
end Pg
end
section
namespace Pg
open Go.RowKit Sy
set_option maxRecDepth 100000
set_option maxHeartbeats 4000000
open Wr
theorem int_shl8u (t:TypeId) (a:Nat) (ha:a<72057594037927936) (w:World):(binOp .shl t (.int .u64 (a:Int)) (.int .u64 8)).run Tryz.prog w=.ok (.int .u64 ((a*256:Nat):Int)) w:=int_shl8 t a ha w
theorem str_of {w:World} {A:Option Addr} {n cp:Nat} {b:Byt} (h:BytR (rdW w) (.slice A n cp) b):(convert 22 9 (.slice A n cp)).run Tryz.prog w=.ok (.string ⟨b.toArray⟩) w:=by
 obtain ⟨A',n',cp',e,h2,h3,h4,h5⟩:=h
 injection e with e1 e2 e3
 subst e1 e2 e3
 subst h2
 rcases b with _ | ⟨x,m⟩
 ·cases A with
  | none =>
   rw [show ([]:List UInt8).length=0 from rfl,run_convert_bytes_string w 22 9 5 none 0 cp Tryz.underlying22 Tryz.underlying5 Tryz.underlying9]
   rfl
  | some a=>exact run_convert_bytes_back w 22 9 5 a cp [] Tryz.underlying22 Tryz.underlying5 Tryz.underlying9 (λj hj=>absurd hj (Nat.not_lt_zero _))
 ·obtain ⟨g,o,rfl,hq⟩:=h5 (by simp)
  refine run_convert_bytes_back w 22 9 5 _ cp _ Tryz.underlying22 Tryz.underlying5 Tryz.underlying9 (λj hj=>?_)
  rw [addr_off]
  exact (hq j _ (List.getElem?_eq_getElem hj)).2
theorem strC {w0:Base} {F:Slots} {L:Blocks} {o:Oper} {v:Value} {b:Byt} (x:Operand) (ho:o.op=.convert 22 9 x) (hx:evF F x=v) (hv:∀ w,St w0 w L→BytR (rdW w) v b):Quiet Tryz.prog w0 F L o (.string ⟨b.toArray⟩):=λw hw=>by
 have q:=hv w hw
 obtain ⟨A,n,cp,rfl,_⟩:=hv w hw
 unfold Gives execOp
 simp only [ho,hx,Sem.run_bind,str_of q,Result.andThen_ok,Sem.run_pure]
 exact ⟨trivial,Gr.refl _⟩
theorem eql_str (w:World) (F:Slots) (o:Oper) (x y:Operand) (a b:List UInt8) {yt:TypeId} (ho:o.op=.binOp .eql 9 x y yt) (hx:evF F x=.string ⟨a.toArray⟩) (hy:evF F y=.string ⟨b.toArray⟩):(execOp (evF F) o).run Tryz.prog w=.ok (.value (.bool (decide (a=b)))) w:=by
 have h1:(eqGuard .eql 9 x y (.string ⟨a.toArray⟩) (.string ⟨b.toArray⟩)).run Tryz.prog w=.ok () w:=by go_simp
 have h2:(binOp .eql 9 (.string ⟨a.toArray⟩) (.string ⟨b.toArray⟩)).run Tryz.prog w=.ok (.bool (decide (a=b))) w:=by
  by_cases e:a=b <;> simp [go_sem,ByteArray.toList_eq,e]
 unfold execOp
 simp only [ho,hx,hy,Sem.run_bind,h1,h2,Result.andThen_ok,Sem.run_pure]
theorem tru_take {b:Byt} {i:Nat} {u:UInt8} (h:b[i]? = some u):tru (b.take (i+1))=(tru (b.take i) || u != 0):=by
 unfold tru
 rw [List.take_add_one,h,List.any_append]
 simp
theorem tru_pre {b:Byt} {i:Nat} (h:tru (b.take i)=true):tru b=true:=by
 unfold tru at h ⊢
 rw [← List.take_append_drop i b,List.any_append,h]; rfl
theorem truth_any (w:World) (v:Value) (b:Byt) (hv:BytR (rdW w) v b):Calls Tryz.prog 46 #[v] w (Gets w (.bool (tru b))):=by
 obtain ⟨A,n,cp,rfl,h2,h3,h4,h5⟩:=hv
 refine Sy.enter (args:=[.slice A n cp]) Tryz.func46 rfl kL ?_
 have hmx:cp<9223372036854775808:=by simp only [maxLen] at h4; omega
 refine sC ?_
 refine sP (.bool false) ?_
 refine sG<|Sy.seq<|sC ?_
 refine sp rfl<|sP (.int .i64 (n:Int))<|sP (.int .i64 0) ?_
 refine sG<|Sy.block ?_
 refine Sy.loopT (Y:=Unit) n (λi _=>[(5,.slice A n cp),(6,.int .i64 (n:Int)),(7,.int .i64 (i:Int))]) (λ_ _=>[]) (λi _=>tru (b.take i)=false) () rfl (all_cons kR (all_cons kR (all_cons kR all_nil))) (λ_ h=>h) (λi _ hi hy=>?_)
 refine sC ?_
 obtain ⟨b2,hb2⟩:∃ t_:Bool,t_=decide (i<n):=⟨_,rfl⟩
 refine sS (.bool b2) (Quiet.pure (exec_int .lss _ _ _ .i64 _ _ _ rfl rfl rfl (int_lss _ _ _ _ _ (by rw [hb2]; exact decide_eq_decide.2 (by omega))))) ?_
 refine sG<|Sy.seq ?_
 cases b2
 case' false =>
  have l2:¬ i<n:=of_decide_eq_false hb2.symm
  obtain rfl:i=n:=by omega
  rw [List.take_of_length_le (by omega)] at hy
  refine sU<|Sy.exit<|Sy.then_exit<|Sy.then_exit<|Sy.in_exit<|Sy.then_<|sC ?_
  refine sP (.bool false) ?_
  refine sG<|Sy.ret ?_
  rw [hy]
  exact rV (.bool false) rfl
 have l2:i<n:=of_decide_eq_true hb2.symm
 obtain ⟨u,hu⟩:∃ u,b[i]? = some u:=⟨_,List.getElem?_eq_getElem (by omega)⟩
 obtain ⟨g,o,rfl,hq⟩:=h5 (by intro e; rw [e] at hu; cases hu)
 have hu2:=u.toNat_lt
 refine sT<|Sy.skip<|Sy.then_<|Sy.seq<|Sy.block<|sC ?_
 refine sS (.pointer (some ⟨g,o+i*1,none⟩)) (Quiet.pure (exec_at 22 5 _ _ g o n cp i 1 .i64 rfl rfl rfl Tryz.underlying22 kF l2))<|sS (bv u) (Quiet.thereOne g (o+i*1) 5 _ _ rfl kR (hq i u hu).1 _ (by rw [Nat.mul_one]; exact (hq i u hu).2) Tryz.underlying5 rfl)<|sp rfl ?_
 refine sG<|sC ?_
 obtain ⟨b3,hb3⟩:∃ t_:Bool,t_=decide (u.toNat≠0):=⟨_,rfl⟩
 refine sp rfl<|sS (.bool b3) (Quiet.pure (exec_int .neq _ _ _ .u8 _ _ _ rfl rfl rfl (int_neq _ _ _ _ _ (by rw [hb3]; exact decide_eq_decide.2 (by omega))))) ?_
 refine sG ?_
 have e3:b3=(u != 0):=by
  rw [hb3]
  by_cases e:u=0
  ·subst e; rfl
  ·have:u.toNat≠0:=λh=>e (by rw [← UInt8.toNat_inj]; exact h)
   simp [e,this]
 have htk:=tru_take hu
 rw [hy,Bool.false_or, ← e3] at htk
 cases b3
 case' true =>
  refine sT<|sC ?_
  refine sP (.bool true) ?_
  refine sG<|Sy.ret<|Sy.in_ret<|Sy.then_ret<|Sy.then_ret<|Sy.in_ret<|Sy.then_ret ?_
  rw [tru_pre htk]
  exact rV (.bool true) rfl
 refine sU<|Sy.skip<|Sy.in_<|Sy.then_<|Sy.region ?_
 refine sS (.int .i64 ((i+1:Nat):Int)) (Quiet.pure (exec_int .add _ _ _ .i64 _ _ _ rfl rfl rfl (int_add _ _ _ _ _ ((wrap_i64 (by omega) (by omega)).trans (by omega)))))<|sp rfl ?_
 refine Sy.nil ?_
 exact Sy.againT () l2 htk (all_cons kR (all_cons kR (all_cons kR all_nil))) (λw h=>h)
theorem numb_any (w:World) (v:Value) (b:Byt) (h8:b.length≤8) (hv:BytR (rdW w) v b):Calls Tryz.prog 151 #[v] w (Gets w (.int .u64 ((said b:Nat):Int))):=by
 obtain ⟨A,n,cp,rfl,h2,h3,h4,h5⟩:=hv
 refine Sy.enter (args:=[.slice A n cp]) Tryz.func151 rfl kL ?_
 have hmx:cp<9223372036854775808:=by simp only [maxLen] at h4; omega
 refine sC ?_
 refine sP (.int .u64 0) ?_
 refine sA ?_
 refine sP (.int .u64 0) ?_
 refine sG<|Sy.seq<|sC ?_
 refine sp rfl<|sP (.int .i64 (n:Int))<|sP (.int .i64 0) ?_
 refine sG<|Sy.block ?_
 refine Sy.loopT (Y:=Nat) n (λi a=>[(3,.int .u64 (a:Int)),(6,.slice A n cp),(7,.int .i64 (n:Int)),(8,.int .i64 (i:Int))]) (λ_ _=>[]) (λi a=>a=said (b.take i)) 0 (by rw [List.take_zero]; rfl) (all_cons kR (all_cons kR (all_cons kR (all_cons kR all_nil)))) (λ_ h=>h) (λi a hi hy=>?_)
 refine sC ?_
 obtain ⟨b2,hb2⟩:∃ t_:Bool,t_=decide (i<n):=⟨_,rfl⟩
 refine sS (.bool b2) (Quiet.pure (exec_int .lss _ _ _ .i64 _ _ _ rfl rfl rfl (int_lss _ _ _ _ _ (by rw [hb2]; exact decide_eq_decide.2 (by omega))))) ?_
 refine sG<|Sy.seq ?_
 cases b2
 case' false =>
  have l2:¬ i<n:=of_decide_eq_false hb2.symm
  obtain rfl:i=n:=by omega
  rw [List.take_of_length_le (by omega)] at hy
  subst hy
  refine sU<|Sy.exit<|Sy.then_exit<|Sy.then_exit<|Sy.in_exit<|Sy.then_<|sC ?_
  refine sp rfl<|sp rfl ?_
  refine sG<|Sy.ret ?_
  exact rV (.int .u64 ((said b:Nat):Int)) rfl
 have l2:i<n:=of_decide_eq_true hb2.symm
 obtain ⟨u,hu⟩:∃ u,b[i]? = some u:=⟨_,List.getElem?_eq_getElem (by omega)⟩
 obtain ⟨g,o,rfl,hq⟩:=h5 (by intro e; rw [e] at hu; cases hu)
 have ha:a<72057594037927936:=by rw [hy]; exact said_lt8 b i (by omega)
 have hu2:=u.toNat_lt
 refine sT<|Sy.skip<|Sy.then_<|Sy.seq<|Sy.block<|sC ?_
 refine sS (.pointer (some ⟨g,o+i*1,none⟩)) (Quiet.pure (exec_at 22 5 _ _ g o n cp i 1 .i64 rfl rfl rfl Tryz.underlying22 kF l2))<|sS (bv u) (Quiet.thereOne g (o+i*1) 5 _ _ rfl kR (hq i u hu).1 _ (by rw [Nat.mul_one]; exact (hq i u hu).2) Tryz.underlying5 rfl)<|sp rfl ?_
 refine sG<|Sy.region ?_
 refine sp rfl<|sS (.int .u64 ((a*256:Nat):Int)) (Quiet.pure (exec_int .shl _ _ _ .u64 _ _ _ rfl rfl rfl (int_shl8u _ a ha)))<|sp rfl<|sS (.int .u64 ((u.toNat:Nat):Int)) (Quiet.pure (λw=>conv_86 w _ _ _ u rfl rfl))<|sS (.int .u64 ((256*a+u.toNat:Nat):Int)) (Quiet.pure (exec_int .or _ _ _ .u64 _ _ _ rfl rfl rfl (int_or8 _ a _ ha hu2)))<|sp rfl ?_
 refine Sy.nil<|Sy.in_<|Sy.then_<|Sy.region ?_
 refine sS (.int .i64 ((i+1:Nat):Int)) (Quiet.pure (exec_int .add _ _ _ .i64 _ _ _ rfl rfl rfl (int_add _ _ _ _ _ ((wrap_i64 (by omega) (by omega)).trans (by omega)))))<|sp rfl ?_
 refine Sy.nil ?_
 exact Sy.againT (256*a+u.toNat) l2 (by show 256*a+u.toNat=_; rw [hy,said_take b i u hu]) (all_cons kR (all_cons kR (all_cons kR (all_cons kR all_nil)))) (λw h=>h)
theorem bytes_equal (w:World) (v u:Value) (a b:Byt) (hv:BytR (rdW w) v a) (hu:BytR (rdW w) u b):Calls Tryz.prog 68 #[v,u] w (Gets w (.bool (decide (a=b)))):=by
 refine Sy.enter (args:=[v,u]) Tryz.func68 rfl kL ?_
 refine sC ?_
 refine sP (.bool false) ?_
 refine sA ?_
 refine sp rfl<|sS (.string ⟨a.toArray⟩) (strC _ rfl rfl (λw' hw=>hv.at hw))<|sp rfl<|sS (.string ⟨b.toArray⟩) (strC _ rfl rfl (λw' hw=>hu.at hw))<|sS (.bool (decide (a=b))) (Quiet.pure (λw=>eql_str w _ _ _ _ a b rfl rfl rfl))<|sp rfl ?_
 refine sG<|Sy.ret ?_
 exact rV (.bool (decide (a=b))) rfl
end Pg
end
end Go.Proofs.YtnbenphcpenbeaaGreatDoor
