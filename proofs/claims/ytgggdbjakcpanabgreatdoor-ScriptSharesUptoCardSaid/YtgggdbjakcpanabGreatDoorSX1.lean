/-
  Texts of ours, put together: Lift2, Zz, WirA, ScpA, FeSpec, FeBase, FeAdd, FeOrd, OrdV, Ord4, Rnd, Sym, SymB, SymC, SymE, SymF, SymG, SymG2, SymZ, SymK, SymD, SymY, SymI.
-/
import Derived.Test.YtgggdbjakcpanabGreatDoorQALift
import Derived.Test.YtgggdbjakcpanabGreatDoorQAOwnAny
import Derived.KernelRfl
import Derived.WalkKit
import Derived.Test.YtgggdbjakcpanabGreatDoorQAMem
import Derived.Test.YtgggdbjakcpanabGreatDoorChecked
import Derived.Shelf.Spec.BitsCarry
import Derived.Lib.Mul64
import Derived.Laws.Bits64b
import Derived.Laws.ResultCell
import Derived.Test.YtgggdbjakcpanabGreatDoorQAOrd
import Derived.OrdersIn
import Derived.TacticsIn
import Derived.RangeFuncCalls
import Derived.ControlIn
import Derived.RangeFuncNested
import Derived.RangeFuncLeaves
import Derived.LoopNIn
import Derived.Laws.AppendOwn
import Derived.Deep.DeepAppendRoom
import Derived.ArgAppend
import Derived.Laws.IdiomCopy
import Derived.Laws.MakeOwn
import Derived.RangeFuncSeq
import Derived.OwnWalkIn
import Derived.RegionTactic
import Derived.ChangeAlike
import Derived.BigRegion
import Derived.Stop.BytesEq
import Derived.Deep.AppendLies
import Derived.OwnWalk
import Derived.Great.BuildSlice
import Derived.Laws.Tables
import Derived.Lib.AppendZeros
import Derived.Scope
import Derived.Test.YtgggdbjakcpanabGreatDoorRows
import Derived.Laws.IdiomArrays
import Derived.ProofKit
import Derived.OpenShut
import Derived.Deep.DeepHandedRow
import Derived.Lib.LaidTab
import Derived.Deep.Slices
import Derived.SizedLaws
import Derived.Test.YtgggdbjakcpanabGreatDoorQATag
import Derived.Laws.BitsAllLaws
import Derived.Test.YtgggdbjakcpanabGreatDoorQAMem3
import Derived.Laws.IdiomStrings
import Derived.Test.YtgggdbjakcpanabGreatDoorQAShaOf
import Derived.Deep.Strs
set_option linter.unusedVariables false
set_option linter.unusedSimpArgs false
namespace Go.Proofs.YtgggdbjakcpanabGreatDoor
section
open Go.RowKit
section
variable {P:Program} {ops:Array Oper} {Q:Exit→Act→World→Prop} {md:Region.Mode} {ex:Nat→Bool}
theorem tkw (i:Nat) {oi:Oper} {v:Value} {fuel:Nat} {listed:Array Bool} {a:Act} {w:World} (hi0:ops.toList[i]? = some oi) (hy:YieldsG P ops oi v a w) (h:wpAnyG P md ops Q ex fuel (listed.setIfInBounds i true) (a.put oi.dst v) w) (hc:canTake md ops listed ex i=true:=by kernel_rfl) (hQ:∀ c a w,Q (.panic c) (a.put oi.dst v) w→Q (.panic c) a w:=by exact λ_ _ _ h=>h):wpAnyG P md ops Q ex (fuel+1) listed a w:=wpAnyG_take i hi0 hc hQ hy h
theorem tk (i:Nat) {oi:Oper} {v:Value} {fuel:Nat} {listed:Array Bool} {a:Act} {w:World} (hi0:ops.toList[i]? = some oi) (h:wpAnyG P md ops Q ex fuel (listed.setIfInBounds i true) (a.put oi.dst v) w) (hw:Region.wanted oi (yielded ops a.tmps)=true:=by rfl) (hg:∀ w1,Gr w w1→(execOp a.eval oi).run P w1=.ok (.value v) w1:=by intro w9 _; go_simp; try with_reducible rfl) (hc:canTake md ops listed ex i=true:=by kernel_rfl) (hQ:∀ c a w,Q (.panic c) (a.put oi.dst v) w→Q (.panic c) a w:=by exact λ_ _ _ h=>h):wpAnyG P md ops Q ex (fuel+1) listed a w:=wpAnyG_take i hi0 hc hQ (YieldsG.pure hw hg) h
end
theorem aA {α:Type _} (l:List α) (i:Nat) (a:α):l.toArray.setIfInBounds i a=(l.set i a).toArray:=List.setIfInBounds_toArray ..
theorem aZ {α:Type _} {x:α} {xs:List α} {a:α}:(x::xs).set 0 a=a::xs:=rfl
theorem aS {α:Type _} {x:α} {xs:List α} {n:Nat} {a:α}:(x::xs).set (n+1) a=x::xs.set n a:=rfl
abbrev Zl (n:Nat):List Value:=List.replicate n (.int .u8 0)
end
section
namespace Sh
open Go.ChangeShapes Go.WideShapes Go.ChangeAt Go.RowKit
end Sh
end
section
section
theorem kR {α:Sort _} {a b:α} (h:a=b:=by kernel_rfl):a=b:=h
theorem kL {a b:Nat} (h:Nat.ble a b=true:=by kernel_rfl):a≤b:=Nat.le_of_ble_eq_true h
theorem kF {α:Sort _} {β:α→Sort _} {f g:(x:α)→β x} (h:∀ x,f x=g x:=by intro _; kernel_rfl) (x:α):f x=g x:=h x
end
end
section
namespace Wr
abbrev Byt:=List UInt8
def said (l:Byt):Nat:=l.foldl (λa b=>256*a+b.toNat) 0
theorem foldl_said (l:Byt) (a:Nat):l.foldl (λa b=>256*a+b.toNat) a=a*256 ^ l.length+said l:=by
 induction l generalizing a with
 | nil=>simp [said]
 | cons b l ih =>
  unfold said
  rw [List.foldl_cons,List.foldl_cons,ih,ih,List.length_cons,Nat.pow_succ,Nat.mul_zero,Nat.zero_add,Nat.add_mul,Nat.add_assoc]
  congr 1
  rw [Nat.mul_comm 256 a,Nat.mul_assoc,Nat.mul_comm 256]
theorem said_cons (b:UInt8) (l:Byt):said (b::l)=b.toNat*256 ^ l.length+said l:=by
 rw [← foldl_said]; unfold said; rw [List.foldl_cons,Nat.mul_zero,Nat.zero_add]
theorem said_snoc (l:Byt) (b:UInt8):said (l++[b])=256*said l+b.toNat:=by simp [said]
theorem said_lt (l:Byt):said l<256 ^ l.length:=by
 induction l with
 | nil=>exact Nat.lt_of_lt_of_le Nat.zero_lt_one (Nat.le_refl _)
 | cons b l ih =>
  rw [said_cons,List.length_cons,Nat.pow_succ]
  have h:b.toNat≤255:=by have:=b.toNat_lt; omega
  have h2:b.toNat*256 ^ l.length≤255*256 ^ l.length:=Nat.mul_le_mul_right _ h
  omega
end Wr
end
section
namespace Pg
open Wr
abbrev Opn:=UInt8×Byt
def follow (c:UInt8):Option Nat:=if c.toNat≤64 then some c.toNat else if c.toNat=104 then some 2 else if 96≤c.toNat∧c.toNat≤108 then some 0 else none
def take (o:List Bool) (c:UInt8):Option (List Bool) :=
 if c.toNat=106 then some (o++[false])
 else if c.toNat=107 then (if o=[]∨o.getLast? = some true then none else some (o.dropLast++[true]))
 else if c.toNat=108 then (if o=[] then none else some o.dropLast)
 else some o
def parseN:Nat→Byt→List Bool→Nat×List Opn
 | _,[],o=>if o=[] then (0,[]) else (135,[])
 | 0,_::_,_=>(131,[])
 | n+1,c::r,o=>match follow c with
  | none=>(131,[])
  | some k=>if r.length<k then (131,[]) else match take o c with
   | none=>(135,[])
   | some o'=>if (parseN n (r.drop k) o').1=0 then (0,(c,r.take k)::(parseN n (r.drop k) o').2) else ((parseN n (r.drop k) o').1,[])
def parse (p:Byt):Nat×List Opn:=if 256<p.length then (130,[]) else parseN p.length p []
def fin (l:List Opn) (q:Nat×List Opn):Nat×List Opn:=if q.1=0 then (0,l++q.2) else (q.1,[])
theorem parseN_err (n:Nat) (p:Byt) (o:List Bool):(parseN n p o).1≠0→(parseN n p o).2=[]:=by
 cases n <;> cases p <;> unfold parseN <;> (repeat' split) <;> first | (intro _; rfl) | (intro h; exact absurd rfl h)
theorem fin_nil (n:Nat) (p:Byt) (o:List Bool):fin [] (parseN n p o)=parseN n p o:=by
 unfold fin
 split
 ·rename_i h; rw [List.nil_append, ← h]
 ·rename_i h; rw [← parseN_err n p o h]
theorem parse_more:∀ (n m:Nat) (p:Byt) (o:List Bool),p.length≤n→p.length≤m→parseN n p o=parseN m p o
 | n,m,[],o,_,_=>by cases n <;> cases m <;> rfl
 | 0,_,_::_,_,h,_=>by simp at h
 | _+1,0,_::_,_,_,h=>by simp at h
 | n+1,m+1,c::r,o,h1,h2=>by
  unfold parseN
  split
  ·rfl
  ·rename_i k _
   split
   ·rfl
   ·split
    ·rfl
    ·rename_i o' _
     have hl:(r.drop k).length≤n:=by rw [List.length_drop]; rw [List.length_cons] at h1; omega
     have hl2:(r.drop k).length≤m:=by rw [List.length_drop]; rw [List.length_cons] at h2; omega
     rw [parse_more n m (r.drop k) o' hl hl2]
def par (p:Byt) (o:List Bool):Nat×List Opn:=parseN p.length p o
theorem par_nil (o:List Bool):par [] o=if o=[] then (0,[]) else (135,[]):=rfl
theorem par_no {c:UInt8} {r:Byt} {o:List Bool} (h:follow c=none):par (c::r) o=(131,[]):=by
 unfold par; rw [List.length_cons]; unfold parseN; rw [h]
theorem par_short {c:UInt8} {r:Byt} {o:List Bool} {k:Nat} (h:follow c=some k) (hk:r.length<k):par (c::r) o=(131,[]):=by
 unfold par; rw [List.length_cons]; unfold parseN; rw [h]; dsimp only; rw [if_pos hk]
theorem par_if {c:UInt8} {r:Byt} {o:List Bool} {k:Nat} (h:follow c=some k) (hk:¬ r.length<k) (ht:take o c=none):par (c::r) o=(135,[]):=by
 unfold par; rw [List.length_cons]; unfold parseN; rw [h]; dsimp only; rw [if_neg hk,ht]
theorem par_go {c:UInt8} {r:Byt} {o o':List Bool} {k:Nat} (h:follow c=some k) (hk:¬ r.length<k) (ht:take o c=some o'):par (c::r) o=fin [(c,r.take k)] (par (r.drop k) o'):=by
 have e:parseN r.length (r.drop k) o'=par (r.drop k) o':=parse_more _ _ _ _ (by rw [List.length_drop]; omega) (Nat.le_refl _)
 have e2:par (c::r) o=if (parseN r.length (r.drop k) o').1=0 then (0,(c,r.take k)::(parseN r.length (r.drop k) o').2) else ((parseN r.length (r.drop k) o').1,[]):=by
  unfold par; rw [List.length_cons]
  conv=>lhs; unfold parseN
  rw [h]; dsimp only; rw [if_neg hk,ht]
 rw [e2,e]
 rfl
theorem fin_fin (l m:List Opn) (q:Nat×List Opn):fin l (fin m q)=fin (l++m) q:=by
 unfold fin
 by_cases h:q.1=0
 ·simp [h]
 ·simp [h]
def okO (x:Opn):Prop:=follow x.1=some x.2.length
theorem parseN_ok:∀ (n:Nat) (p:Byt) (o:List Bool), ∀ x∈(parseN n p o).2,okO x
 | n,[],o=>by
  intro x hx
  cases n <;> (unfold parseN at hx; split at hx <;> cases hx)
 | 0,_::_,_=>by intro x hx; cases hx
 | n+1,c::r,o=>by
  intro x hx
  unfold parseN at hx
  split at hx
  ·cases hx
  ·rename_i k hk
   split at hx
   ·cases hx
   ·split at hx
    ·cases hx
    ·rename_i hl o' _
     split at hx
     ·rcases List.mem_cons.1 hx with rfl | hx
      ·unfold okO; dsimp only; rw [hk,List.length_take,Nat.min_eq_left (by omega)]
      ·exact parseN_ok n _ _ x hx
     ·cases hx
theorem parse_ok (p:Byt):∀ x∈(parse p).2,okO x:=by
 intro x hx
 unfold parse at hx
 split at hx
 ·cases hx
 ·exact parseN_ok _ _ _ x hx
theorem parseN_len:∀ (n:Nat) (p:Byt) (o:List Bool),(parseN n p o).2.length≤n
 | n,[],o=>by cases n <;> (unfold parseN; split <;> simp)
 | 0,_::_,_=>Nat.le_refl _
 | n+1,c::r,o=>by
  unfold parseN
  split
  ·simp
  ·split
   ·simp
   ·split
    ·simp
    ·rename_i k _ _ o' _
     split
     ·rw [List.length_cons]; exact Nat.succ_le_succ (parseN_len n _ _)
     ·simp
theorem parse_len (p:Byt):(parse p).2.length≤256:=by
 unfold parse
 split
 ·simp
 ·exact Nat.le_trans (parseN_len _ _ _) (by omega)
def tru (b:Byt):Bool:=b.any λx=>x != 0
def rS (b:Bool):Byt:=if b then [1] else []
structure Env where
 V:Byt→Byt→Bool
 H:Byt→Byt
 h:Nat
def sgn (E:Env) (s key:Byt):Bool:=decide (key.length=32) && (decide (s.length=64) && E.V key s)
def needs (x:Opn):Nat :=
 if x.1.toNat≤64 then 0 else
 if x.1.toNat=104 then 2*(x.2.getD 1 0).toNat else
 if x.1.toNat=98∨x.1.toNat=101∨x.1.toNat=103 then 2 else
 if x.1.toNat=107∨x.1.toNat=108 then 0 else 1
def shr (E:Env):List Byt→List Byt→Option Nat
 | s::l,k::r=>if s=[] then shr E l r else if sgn E s k then (shr E l r).map (·+1) else none
 | _,_=>some 0
def share (E:Env) (t n:Nat) (l:List Byt):Bool:=match shr E (l.take n) (l.drop n) with | none=>false | some m=>decide (t≤m)
def does (E:Env) (x:Opn) (l:List Byt):Nat×List Byt :=
 let a:=l.getD 0 []
 let b:=l.getD 1 []
 match x.1.toNat with
 | 96=>if tru a then (0,[]) else (134,[])
 | 97=>(0,[rS (!tru a)])
 | 98=>(0,[rS (decide (a=b))])
 | 99=>(0,[a,a])
 | 100=>(0,[])
 | 101=>(0,[b,a])
 | 102=>(0,[E.H a])
 | 103=>(0,[rS (sgn E a b)])
 | 104=>(0,[rS (share E (x.2.getD 0 0).toNat (x.2.getD 1 0).toNat l)])
 | 105=>if 8<a.length∨E.h<said a then (136,[]) else (0,[])
 | 106=>(0,[])
 | 107=>(0,[])
 | 108=>(0,[])
 | _=>(0,[x.2])
def skp (x:Opn) (l:List Byt):Nat:=if x.1.toNat=107∨(x.1.toNat=106∧tru (l.getD 0 [])=false) then 1 else 0
def pas (c:UInt8) (k:Nat):Nat:=if c.toNat=106 then k+1 else if c.toNat=108 then k - 1 else if c.toNat=107∧k=1 then 0 else k
def exec (E:Env):List Opn→List Byt→Nat→Nat
 | [],st,_=>if st.length=1∧tru (st.getD 0 [])=true then 0 else 133
 | x::os,st,k =>
  if 0<k then exec E os st (pas x.1 k)
  else if st.length<needs x then 132
  else if (does E x (st.drop (st.length - needs x))).1≠0 then (does E x (st.drop (st.length - needs x))).1
  else if 32<(st.take (st.length - needs x)++(does E x (st.drop (st.length - needs x))).2).length then 132
  else exec E os (st.take (st.length - needs x)++(does E x (st.drop (st.length - needs x))).2) (skp x (st.drop (st.length - needs x)))
def fits (l:List Byt):Bool:=decide (l.length≤16) && l.all λb=>decide (b.length≤256)
def run (E:Env) (p:Byt) (wit:List Byt):Nat:=if (parse p).1≠0 then (parse p).1 else if fits wit then exec E (parse p).2 wit 0 else 130
end Pg
end
section
section
open Go.RowKit
def qv (n:Nat):Value:=.int .u64 (n:Int)
def fv (n:Nat):Value:=.agg #[qv (n%18446744073709551616),qv (n / 18446744073709551616%18446744073709551616),qv (n / 340282366920938463463374607431768211456%18446744073709551616),qv (n / 6277101735386680763835789423207666416102355444464034512896%18446744073709551616)]
theorem fv_mk (a b c d:Nat) (ha:a<18446744073709551616) (hb:b<18446744073709551616) (hc:c<18446744073709551616) (hd:d<18446744073709551616):Value.agg #[.int .u64 (a:Int),.int .u64 (b:Int),.int .u64 (c:Int),.int .u64 (d:Int)]=fv (a+18446744073709551616*b+340282366920938463463374607431768211456*c+6277101735386680763835789423207666416102355444464034512896*d):=by
 unfold fv qv
 have e0:(a+18446744073709551616*b+340282366920938463463374607431768211456*c+6277101735386680763835789423207666416102355444464034512896*d)%18446744073709551616=a:=by omega
 have e1:(a+18446744073709551616*b+340282366920938463463374607431768211456*c+6277101735386680763835789423207666416102355444464034512896*d) / 18446744073709551616%18446744073709551616=b:=by omega
 have e2:(a+18446744073709551616*b+340282366920938463463374607431768211456*c+6277101735386680763835789423207666416102355444464034512896*d) / 340282366920938463463374607431768211456%18446744073709551616=c:=by omega
 have e3:(a+18446744073709551616*b+340282366920938463463374607431768211456*c+6277101735386680763835789423207666416102355444464034512896*d) / 6277101735386680763835789423207666416102355444464034512896%18446744073709551616=d:=by omega
 rw [e0,e1,e2,e3]
theorem words_of (n:Nat) (hn:n<(2^256)):∃ a b c d:Nat,a<18446744073709551616∧b<18446744073709551616∧c<18446744073709551616∧d<18446744073709551616∧n=a+18446744073709551616*b+340282366920938463463374607431768211456*c+6277101735386680763835789423207666416102355444464034512896*d∧fv n=.agg #[.int .u64 (a:Int),.int .u64 (b:Int),.int .u64 (c:Int),.int .u64 (d:Int)] :=
 ⟨n%18446744073709551616,n / 18446744073709551616%18446744073709551616,n / 340282366920938463463374607431768211456%18446744073709551616,n / 6277101735386680763835789423207666416102355444464034512896%18446744073709551616,by omega,by omega,by omega,by omega,by omega,rfl⟩
theorem fv_lt (a b c d:Nat) (ha:a<18446744073709551616) (hb:b<18446744073709551616) (hc:c<18446744073709551616) (hd:d<18446744073709551616):a+18446744073709551616*b+340282366920938463463374607431768211456*c+6277101735386680763835789423207666416102355444464034512896*d<(2^256):=by omega
def pM:Nat:=115792089237316195423570985008687907853269984665640564039457584007908834671663
theorem pM_eq:pM=115792089237316195423570985008687907853269984665640564039457584007908834671663:=rfl
theorem mod_lt (n:Nat):n%pM<(2^256):=by have:=Nat.mod_lt n (show 0<pM by decide); rw [pM_eq] at this ⊢; omega
theorem mod_lt_p (n:Nat):n%pM<pM:=Nat.mod_lt n (by decide)
def addP (x y:Nat):Nat:=(x+y)%pM
def negP (x:Nat):Nat:=(pM - x%pM)%pM
def subP (x y:Nat):Nat:=(x+(pM - y%pM))%pM
def mulP (x y:Nat):Nat:=x*y%pM
theorem negP_lt (x:Nat):negP x<(2^256):=mod_lt _
theorem mulP_lt (x y:Nat):mulP x y<(2^256):=mod_lt _
theorem red_once (x:Nat) (hx:x<(2^256)):x%pM=if x+4294968273<(2^256) then x else x+4294968273 - (2^256):=by
 rw [pM_eq]
 by_cases h:x+4294968273<(2^256)
 ·rw [if_pos h]; exact Nat.mod_eq_of_lt (by omega)
 ·rw [if_neg h,Nat.mod_eq_sub_mod (by omega),Nat.mod_eq_of_lt (by omega)]
  omega
theorem mod_of_mult {x z k:Nat} (h:z+115792089237316195423570985008687907853269984665640564039457584007908834671663*k=x):z%pM=x%pM:=by
 rw [← h,pM_eq,Nat.add_mul_mod_self_left]
theorem sub_words (x y:Nat):subP x y=if y%pM≤x%pM then x%pM - y%pM else x%pM+115792089237316195423570985008687907853269984665640564039457584007908834671663 - y%pM:=by
 unfold subP
 have hx:=mod_lt_p x
 have hy:=mod_lt_p y
 rw [← Nat.mod_add_mod]
 generalize x%pM=a at *
 generalize y%pM=b at *
 rw [pM_eq] at *
 by_cases h:b≤a
 ·rw [if_pos h,Nat.mod_eq_sub_mod (by omega),Nat.mod_eq_of_lt (by omega)]; omega
 ·rw [if_neg h,Nat.mod_eq_of_lt (by omega)]; omega
theorem neg_sub (x:Nat):negP x=subP 0 x:=by unfold negP subP; rw [Nat.zero_add]
theorem row_mul (a b c d w:Nat):(a+18446744073709551616*b+340282366920938463463374607431768211456*c+6277101735386680763835789423207666416102355444464034512896*d)*w=a*w+18446744073709551616*(b*w)+340282366920938463463374607431768211456*(c*w)+6277101735386680763835789423207666416102355444464034512896*(d*w):=by
 simp only [Nat.add_mul,Nat.mul_assoc]
theorem col_mul (x a b c d:Nat):x*(a+18446744073709551616*b+340282366920938463463374607431768211456*c+6277101735386680763835789423207666416102355444464034512896*d)=x*a+18446744073709551616*(x*b)+340282366920938463463374607431768211456*(x*c)+6277101735386680763835789423207666416102355444464034512896*(x*d):=by
 rw [Nat.mul_comm,row_mul,Nat.mul_comm a,Nat.mul_comm b,Nat.mul_comm c,Nat.mul_comm d]
end
end
section
section
open Go.RowKit Go.Lib
theorem run_addc (x y c:Nat) (hc:c≤1) (w:World) :
  (callFunc 81 #[.int .u64 x,.int .u64 y,.int .u64 c]).run Tryz.prog w =
   .ok (.value (.tuple #[.int .u64 (((x+y+c)%18446744073709551616:Nat):Int),.int .u64 (((x+y+c) / 18446744073709551616:Nat):Int)])) w:=by
 rw [run_callFunc_extern Tryz.func81 (by kernel_rfl) (by kernel_rfl) (by kernel_rfl) (e:=add64Entry) (by kernel_rfl),run_add64 x y c (by omega) (by omega) (by omega) (by omega)]
 simp only [Result.andThen]
 congr 5 <;> omega
theorem run_subc (x y b:Nat) (hb:b≤1) (w:World) :
  (callFunc 80 #[.int .u64 x,.int .u64 y,.int .u64 b]).run Tryz.prog w =
   .ok (.value (.tuple #[.int .u64 (((x+18446744073709551616 - y - b)%18446744073709551616:Nat):Int),.int .u64 ((if x<y+b then 1 else 0:Nat):Int)])) w:=by
 rw [run_callFunc_extern Tryz.func80 (by kernel_rfl) (by kernel_rfl) (by kernel_rfl) (e:=sub64Entry) (by kernel_rfl),run_sub64 x y b hb]
 rfl
theorem run_add0 (x y:Nat) (w:World) :
  (callFunc 81 #[.int .u64 x,.int .u64 y,.int .u64 0]).run Tryz.prog w =
   .ok (.value (.tuple #[.int .u64 (((x+y)%18446744073709551616:Nat):Int),.int .u64 (((x+y) / 18446744073709551616:Nat):Int)])) w:=run_addc x y 0 (by omega) w
theorem run_sub0 (x y:Nat) (w:World) :
  (callFunc 80 #[.int .u64 x,.int .u64 y,.int .u64 0]).run Tryz.prog w =
   .ok (.value (.tuple #[.int .u64 (((x+18446744073709551616 - y)%18446744073709551616:Nat):Int),.int .u64 ((if x<y then 1 else 0:Nat):Int)])) w:=run_subc x y 0 (by omega) w
theorem addc_ex (x y c:Nat) (hx:x<18446744073709551616) (hy:y<18446744073709551616) (hc:c≤1):∃ s k:Nat,s<18446744073709551616∧k≤1∧s+18446744073709551616*k=x+y+c∧∀ w,(callFunc 81 #[.int .u64 x,.int .u64 y,.int .u64 c]).run Tryz.prog w=.ok (.value (.tuple #[.int .u64 (s:Int),.int .u64 (k:Int)])) w :=
 ⟨_,_,by omega,by omega,by omega,run_addc x y c hc⟩
theorem subc_ex (x y c:Nat) (hx:x<18446744073709551616) (hy:y<18446744073709551616) (hc:c≤1):∃ s k:Nat,s<18446744073709551616∧k≤1∧s+y+c=x+18446744073709551616*k∧∀ w,(callFunc 80 #[.int .u64 x,.int .u64 y,.int .u64 c]).run Tryz.prog w=.ok (.value (.tuple #[.int .u64 (s:Int),.int .u64 (k:Int)])) w :=
 ⟨_,_,by omega,by split <;> omega,by split <;> omega,run_subc x y c hc⟩
theorem add0_ex (x y:Nat) (hx:x<18446744073709551616) (hy:y<18446744073709551616):∃ s k:Nat,s<18446744073709551616∧k≤1∧s+18446744073709551616*k=x+y∧∀ w,(callFunc 81 #[.int .u64 x,.int .u64 y,.int .u64 0]).run Tryz.prog w=.ok (.value (.tuple #[.int .u64 (s:Int),.int .u64 (k:Int)])) w :=
 ⟨_,_,by omega,by omega,by omega,run_add0 x y⟩
theorem sub0_ex (x y:Nat) (hx:x<18446744073709551616) (hy:y<18446744073709551616):∃ s k:Nat,s<18446744073709551616∧k≤1∧s+y=x+18446744073709551616*k∧∀ w,(callFunc 80 #[.int .u64 x,.int .u64 y,.int .u64 0]).run Tryz.prog w=.ok (.value (.tuple #[.int .u64 (s:Int),.int .u64 (k:Int)])) w :=
 ⟨_,_,by omega,by split <;> omega,by split <;> omega,run_sub0 x y⟩
theorem below_alloc2 (w:World) (o o':Obj):Below w.heap.size w ((w.alloc o).alloc o'):=((Below.refl _ _).alloc (Nat.le_refl _) _).alloc (by simp) _
theorem below_alloc3 (w:World) (o o' o'':Obj):Below w.heap.size w (((w.alloc o).alloc o').alloc o''):=(below_alloc2 w o o').alloc (by simp; omega) _
theorem blk_new2 (w:World) (o:Obj) (t:TypeId) (cs:Array Value):Blk ((w.alloc o).alloc (.cells cs t)) (w.heap.size+1) t cs:=heap_alloc2_new w _ _
theorem blk_new3 (w:World) (o o':Obj) (t:TypeId) (cs:Array Value):Blk (((w.alloc o).alloc o').alloc (.cells cs t)) (w.heap.size+2) t cs:=by
 have h:=Blk.new ((w.alloc o).alloc o') t cs
 have e:((w.alloc o).alloc o').heap.size=w.heap.size+2:=by simp
 rwa [e] at h
theorem heap_new3 (w:World) (o o' o'':Obj):(((w.alloc o).alloc o').alloc o'').heap[w.heap.size+1+1]? = some o'':=by
 have h:=heap_alloc_new ((w.alloc o).alloc o') o''
 have e:((w.alloc o).alloc o').heap.size=w.heap.size+1+1:=by simp
 rwa [e] at h
theorem blk_new4 (w:World) (o o' o'':Obj) (t:TypeId) (cs:Array Value):Blk ((((w.alloc o).alloc o').alloc o'').alloc (.cells cs t)) (w.heap.size+3) t cs:=by
 have h:=Blk.new (((w.alloc o).alloc o').alloc o'') t cs
 have e:(((w.alloc o).alloc o').alloc o'').heap.size=w.heap.size+3:=by simp
 rwa [e] at h
section
variable {P:Program} {ops:Array Oper} {Q:Exit→Act→World→Prop} {rest:List Oper} {a:Act} {w:World} {d:Option Tmp} {t:TypeId} {p:String} {af:Array Edge} {g:Option (Nat×Bool)}
theorem here_load {ty:TypeId} {x:Operand} (h:wpList P ops Q (⟨d,.load ty x,t,p,af,g⟩::rest) a w):wpList P ops Q (⟨d,.load ty x,t,p,af,g⟩::rest) a w:=h
theorem here_store {ty:TypeId} {x y:Operand} (h:wpList P ops Q (⟨d,.store ty x y,t,p,af,g⟩::rest) a w):wpList P ops Q (⟨d,.store ty x y,t,p,af,g⟩::rest) a w:=h
end
theorem res_cell_tmp {P:Program} {fn:Func} {p u:Tmp} {ty:TypeId} (h:fn.results=#[.cell p ty,.tmp u]) (tmps:Array Value) (w:World) (g:Nat) (t:TypeId) (cs:Array Value) (v:Value) (d:TypeDesc)
  (hp:tmps.getD p undef=.pointer (some ⟨g,0,none⟩)) (hg:Blk w g t cs) (hv:tmps.getD u undef=v)
  (hu:P.underlying ty=some d) (hd:(match d with | .struct _ | .array _ _=>true | _=>false)=true) (hi:(P.info? ty).map (·.size)=some cs.size) :
  (results fn tmps).run P w=.ok (.tuple #[.agg cs,v]) w:=by
 rw [results_cell_tmp h,hp,hv]
 simp [asAddr,run_loadVar_row w g t ty cs (0,0) d hg hu hd hi]
theorem res_tmp_cell {P:Program} {fn:Func} {p u:Tmp} {ty:TypeId} (h:fn.results=#[.tmp u,.cell p ty]) (tmps:Array Value) (w:World) (g:Nat) (t:TypeId) (cs:Array Value) (v:Value) (d:TypeDesc)
  (hp:tmps.getD p undef=.pointer (some ⟨g,0,none⟩)) (hg:Blk w g t cs) (hv:tmps.getD u undef=v)
  (hu:P.underlying ty=some d) (hd:(match d with | .struct _ | .array _ _=>true | _=>false)=true) (hi:(P.info? ty).map (·.size)=some cs.size) :
  (results fn tmps).run P w=.ok (.tuple #[v,.agg cs]) w:=by
 have hp':tmps[p]?.getD undef=.pointer (some ⟨g,0,none⟩):=by simpa using hp
 have hv':tmps[u]?.getD undef=v:=by simpa using hv
 simp [results,h,hp',hv',asAddr,run_loadVar_row w g t ty cs (0,0) d hg hu hd hi,Result.andThen]
theorem res_two_cells {P:Program} {fn:Func} {p q:Tmp} {ty ty2:TypeId} (h:fn.results=#[.cell p ty,.cell q ty2]) (tmps:Array Value) (w:World) (g g2:Nat) (t t2:TypeId) (cs cs2:Array Value) (d d2:TypeDesc)
  (hp:tmps.getD p undef=.pointer (some ⟨g,0,none⟩)) (hg:Blk w g t cs) (hq:tmps.getD q undef=.pointer (some ⟨g2,0,none⟩)) (hg2:Blk w g2 t2 cs2)
  (hu:P.underlying ty=some d) (hd:(match d with | .struct _ | .array _ _=>true | _=>false)=true) (hi:(P.info? ty).map (·.size)=some cs.size)
  (hu2:P.underlying ty2=some d2) (hd2:(match d2 with | .struct _ | .array _ _=>true | _=>false)=true) (hi2:(P.info? ty2).map (·.size)=some cs2.size) :
  (results fn tmps).run P w=.ok (.tuple #[.agg cs,.agg cs2]) w:=by
 have hp':tmps[p]?.getD undef=.pointer (some ⟨g,0,none⟩):=by simpa using hp
 have hq':tmps[q]?.getD undef=.pointer (some ⟨g2,0,none⟩):=by simpa using hq
 simp [results,h,hp',hq',asAddr,run_loadVar_row w g t ty cs (0,0) d hg hu hd hi,run_loadVar_row w g2 t2 ty2 cs2 (0,0) d2 hg2 hu2 hd2 hi2,Result.andThen]
theorem split_any (w:World) (n:Nat):Calls Tryz.prog 102 #[fv n] w λe w'=>e=.returned (fv n)∧Below w.heap.size w w':=by
 unfold fv qv
 go_enter Tryz.func102,Tryz.ntmps102
 go_wp2
 exact bodyPost_ret (results_cell_row rfl _ _ (w.heap.size+1) _ _ (0,0) _ rfl (heap_alloc2_new w _ _) Tryz.underlying151 rfl (by kernel_rfl)) rfl ⟨rfl,below_alloc2 w _ _⟩
theorem number_any (w:World) (n:Nat):Calls Tryz.prog 100 #[fv n] w λe w'=>e=.returned (fv n)∧Below w.heap.size w w':=by
 unfold fv qv
 go_enter Tryz.func100,Tryz.ntmps100
 go_wp2
 exact bodyPost_ret (results_cell_row rfl _ _ (w.heap.size+1) _ _ (0,0) _ rfl (heap_alloc2_new w _ _) Tryz.underlying64 rfl (by kernel_rfl)) rfl ⟨rfl,below_alloc2 w _ _⟩
set_option maxHeartbeats 1000000 in
theorem plus_any (w:World) (x y:Nat) (hx:x<(2^256)) (hy:y<(2^256)):Calls Tryz.prog 120 #[fv x,fv y] w λe w'=>(∃ s k:Nat,s<(2^256)∧k≤1∧s+(2^256)*k=x+y∧e=.returned (.tuple #[fv s,.int .u64 (k:Int)]))∧Below w.heap.size w w':=by
 obtain ⟨x0,x1,x2,x3,a0,a1,a2,a3,ex,fx⟩:=words_of x hx
 obtain ⟨y0,y1,y2,y3,b0,b1,b2,b3,ey,fy⟩:=words_of y hy
 rw [fx,fy]
 obtain ⟨s0,c0,d0,k0,e0,r0⟩:=add0_ex x0 y0 a0 b0
 obtain ⟨s1,c1,d1,k1,e1,r1⟩:=addc_ex x1 y1 c0 a1 b1 k0
 obtain ⟨s2,c2,d2,k2,e2,r2⟩:=addc_ex x2 y2 c1 a2 b2 k1
 obtain ⟨s3,c3,d3,k3,e3,r3⟩:=addc_ex x3 y3 c2 a3 b3 k2
 have fin:s0+18446744073709551616*s1+340282366920938463463374607431768211456*s2+6277101735386680763835789423207666416102355444464034512896*s3+(2^256)*c3=x+y:=by omega
 have hs:=Lib.hid (fv_mk s0 s1 s2 s3 d0 d1 d2 d3)
 have hlt:=fv_lt s0 s1 s2 s3 d0 d1 d2 d3
 clear ex ey fx fy e0 e1 e2 e3 a0 a1 a2 a3 b0 b1 b2 b3
 go_enter Tryz.func120,Tryz.ntmps120
 go_wp2_with (first | (simp only [r0,r1,r2,r3]) | (with_reducible refine here_load (d:=some 45) ?_; refine wpList_load_row rfl _ _ rfl (w.heap.size+1+1) rfl _ _ (0,0) _ (heap_new3 w _ _ _) Tryz.underlying151 rfl (by kernel_rfl) ?_))
 exact bodyPost_ret (res_cell_tmp rfl _ _ (w.heap.size+2) _ _ _ _ rfl (blk_new3 w _ _ _ _) rfl Tryz.underlying151 rfl (by kernel_rfl)) rfl ⟨⟨_,c3,hlt,k3,fin,by rw [← hs.out]; rfl⟩,below_alloc3 w _ _ _⟩
set_option maxHeartbeats 1000000 in
theorem minus_any (w:World) (x y:Nat) (hx:x<(2^256)) (hy:y<(2^256)):Calls Tryz.prog 122 #[fv x,fv y] w λe w'=>(∃ s k:Nat,s<(2^256)∧k≤1∧s+y=x+(2^256)*k∧e=.returned (.tuple #[fv s,.int .u64 (k:Int)]))∧Below w.heap.size w w':=by
 obtain ⟨x0,x1,x2,x3,a0,a1,a2,a3,ex,fx⟩:=words_of x hx
 obtain ⟨y0,y1,y2,y3,b0,b1,b2,b3,ey,fy⟩:=words_of y hy
 rw [fx,fy]
 obtain ⟨s0,c0,d0,k0,e0,r0⟩:=sub0_ex x0 y0 a0 b0
 obtain ⟨s1,c1,d1,k1,e1,r1⟩:=subc_ex x1 y1 c0 a1 b1 k0
 obtain ⟨s2,c2,d2,k2,e2,r2⟩:=subc_ex x2 y2 c1 a2 b2 k1
 obtain ⟨s3,c3,d3,k3,e3,r3⟩:=subc_ex x3 y3 c2 a3 b3 k2
 have fin:s0+18446744073709551616*s1+340282366920938463463374607431768211456*s2+6277101735386680763835789423207666416102355444464034512896*s3+y=x+(2^256)*c3:=by omega
 have hs:=Lib.hid (fv_mk s0 s1 s2 s3 d0 d1 d2 d3)
 have hlt:=fv_lt s0 s1 s2 s3 d0 d1 d2 d3
 clear ex ey fx fy e0 e1 e2 e3 a0 a1 a2 a3 b0 b1 b2 b3
 go_enter Tryz.func122,Tryz.ntmps122
 go_wp2_with (first | (simp only [r0,r1,r2,r3]) | (with_reducible refine here_load (d:=some 45) ?_; refine wpList_load_row rfl _ _ rfl (w.heap.size+1+1) rfl _ _ (0,0) _ (heap_new3 w _ _ _) Tryz.underlying151 rfl (by kernel_rfl) ?_))
 exact bodyPost_ret (res_cell_tmp rfl _ _ (w.heap.size+2) _ _ _ _ rfl (blk_new3 w _ _ _ _) rfl Tryz.underlying151 rfl (by kernel_rfl)) rfl ⟨⟨_,c3,hlt,k3,fin,by rw [← hs.out]; rfl⟩,below_alloc3 w _ _ _⟩
end
end
section
section
open Go.RowKit Go.Lib
theorem wpList_store_blk {P:Program} {ops:Array Oper} {rest:List Oper} {o:Oper} {a:Act} {w1:World} {Q:Exit→Act→World→Prop} (hgd:o.guard=none) (ty:TypeId) (x y:Operand) (ho:o.op=.store ty x y)
  (g:Nat) (cells:Array Value) (hx:a.eval x=.pointer (some ⟨g,0,none⟩)) (hy:a.eval y=.agg cells) (t:TypeId) (c:Array Value) (hg:Blk w1 g t c)
  (hi:(P.info? ty).map (·.size)=some cells.size) (hold:c.size=cells.size) (h1:cells.all (·.oneCell')=true)
  (h:∀ w2,Blk w2 g t cells→(∀ B,B≤g→Below B w1 w2)→(∀ k,k≠g→∀ t' cs',Blk w1 k t' cs'→Blk w2 k t' cs')→wpList P ops Q rest (a.put o.dst undef) w2):wpList P ops Q (o::rest) a w1 :=
 wpList_store_row hgd ty x y ho g cells hx hy t c hg hi hold h1
  (h _ (hg.setRow cells) (λ_ hB=>below_setRow (Below.refl _ _) hB _) (λ_ hk _ _ hb=>hb.setRow_far hk _))
theorem wpList_load_blk {P:Program} {ops:Array Oper} {rest:List Oper} {o:Oper} {a:Act} {w:World} {Q:Exit→Act→World→Prop} (hgd:o.guard=none) (ty:TypeId) (x:Operand) (ho:o.op=.load ty x)
  (g:Nat) (hx:a.eval x=.pointer (some ⟨g,0,none⟩)) (t:TypeId) (cs:Array Value) (d:TypeDesc) (hg:Blk w g t cs)
  (hu:P.underlying ty=some d) (hd:(match d with | .struct _ | .array _ _=>true | _=>false)=true) (hi:(P.info? ty).map (·.size)=some cs.size)
  (h:wpList P ops Q rest (a.put o.dst (.agg cs)) w):wpList P ops Q (o::rest) a w :=
 wpList_load_row hgd ty x ho g hx t cs (0,0) d hg hu hd hi h
theorem Blk.set0 {w:World} {g:Nat} {t:TypeId} {a b c d:Value} (h:Blk w g t #[a,b,c,d]) (u:Value):Blk (w.setCell ⟨g,0,none⟩ u) g t #[u,b,c,d]:=h.set_ 0 u
theorem fv_G:fv 4294968273=.agg #[.int .u64 4294968273,.int .u64 0,.int .u64 0,.int .u64 0]:=rfl
theorem fv_0:fv 0=.agg #[.int .u64 0,.int .u64 0,.int .u64 0,.int .u64 0]:=rfl
set_option maxHeartbeats 1000000 in
theorem reduce_any (w:World) (x:Nat) (hx:x<(2^256)):Calls Tryz.prog 101 #[fv x] w λe w'=>e=.returned (fv (x%pM))∧Below w.heap.size w w':=by
 obtain ⟨x0,x1,x2,x3,a0,a1,a2,a3,ex,fx⟩:=words_of x hx
 have hp:=λw=>plus_any w x 4294968273 hx (by decide)
 simp only [fx,fv_G] at hp
 have FX:=Lib.hid fx
 have hred:=Lib.hid (red_once x hx)
 rw [fx]
 clear ex fx a0 a1 a2 a3
 go_enter Tryz.func101,Tryz.ntmps101
 go_wp2_with fail
 refine (hp _).mono ?_
 rintro e w1 ⟨⟨s,k,hs,hk,he,rfl⟩,hb⟩
 have hX:Blk w1 w.heap.size 151 _:=(Blk.alloc (Blk.new w _ _) _).below hb (by simp <;> omega)
 have hR:Blk w1 (w.heap.size+1) 151 _:=(blk_new2 w _ _ _).below hb (by simp <;> omega)
 have hB:Below w.heap.size w w1:=(below_alloc2 w _ _).trans (hb.mono (by simp <;> omega))
 have hsz:w.heap.size+2≤w1.heap.size:=by have:=hb.size; simp at this; omega
 obtain ⟨s0,s1,s2,s3,b0,b1,b2,b3,es,fs⟩:=words_of s hs
 have Fd:=Lib.hid fs
 have HE:=Lib.hid he
 rw [fs]
 clear es fs he hb hp
 rcases (show k=0∨k=1 by omega) with rfl | rfl
 ·go_wp2_with (first | ((with_reducible refine here_load (d:=some 13) ?_); refine wpList_load_blk rfl _ _ rfl (w.heap.size) rfl _ _ _ (hX.alloc _) Tryz.underlying151 rfl (by kernel_rfl) ?_) | ((with_reducible refine here_store ?_); refine wpList_store_blk rfl _ _ _ rfl (w.heap.size+1) _ rfl rfl _ _ (hR.alloc _) (by kernel_rfl) (by rfl) (by simp [Value.oneCell']) ?_; intro w2 hL hB2 hK2))
  exact bodyPost_ret (results_cell_row rfl _ _ (w.heap.size+1) _ _ (0,0) _ rfl hL Tryz.underlying151 rfl (by kernel_rfl)) rfl ⟨by rw [hred.out,if_pos (by have:=HE.out; omega),FX.out],(hB.alloc (by omega) _).trans (hB2 _ (by omega))⟩
 ·go_wp2_with (first | ((with_reducible refine here_load (d:=some 14) ?_); refine wpList_load_blk rfl _ _ rfl (w1.heap.size) rfl _ _ _ (Blk.new w1 _ _) Tryz.underlying151 rfl (by kernel_rfl) ?_) | ((with_reducible refine here_store ?_); refine wpList_store_blk rfl _ _ _ rfl (w.heap.size+1) _ rfl rfl _ _ (hR.alloc _) (by kernel_rfl) (by rfl) (by simp [Value.oneCell']) ?_; intro w2 hL hB2 hK2))
  exact bodyPost_ret (results_cell_row rfl _ _ (w.heap.size+1) _ _ (0,0) _ rfl hL Tryz.underlying151 rfl (by kernel_rfl)) rfl ⟨by rw [hred.out,if_neg (by have:=HE.out; omega),show x+4294968273 - (2^256)=s by have:=HE.out; omega,Fd.out],(hB.alloc (by omega) _).trans (hB2 _ (by omega))⟩
theorem fv_kG (k:Nat) (hk:k≤1):Value.agg #[.int .u64 ((k:Int)*4294968273),.int .u64 0,.int .u64 0,.int .u64 0]=fv (k*4294968273):=by
 rcases (show k=0∨k=1 by omega) with rfl | rfl <;> rfl
set_option maxHeartbeats 1000000 in
theorem add_any (w:World) (x y:Nat) (hx:x<(2^256)) (hy:y<(2^256)):Calls Tryz.prog 106 #[fv x,fv y] w λe w'=>(∃ z s k u j:Nat,s<(2^256)∧s+(2^256)*k=x+y∧u<(2^256)∧u+(2^256)*j=s+k*4294968273∧z=u+j*4294968273∧e=.returned (fv z))∧Below w.heap.size w w':=by
 obtain ⟨x0,x1,x2,x3,a0,a1,a2,a3,ex,fx⟩:=words_of x hx
 obtain ⟨y0,y1,y2,y3,b0,b1,b2,b3,ey,fy⟩:=words_of y hy
 have hp:=λw=>plus_any w x y hx hy
 simp only [fx,fy] at hp
 rw [fx,fy]
 clear ex fx a0 a1 a2 a3 ey fy b0 b1 b2 b3 hx hy
 go_enter Tryz.func106,Tryz.ntmps106
 go_wp2_with fail
 refine (hp _).mono ?_
 rintro e w1 ⟨⟨s,k,hs,hk,he,rfl⟩,hb⟩
 have hR:Blk w1 (w.heap.size+2) 151 _:=(blk_new3 w _ _ _ _).below hb (by simp <;> omega)
 have hB:Below w.heap.size w w1:=(below_alloc3 w _ _ _).trans (hb.mono (by simp <;> omega))
 have hsz:w.heap.size+3≤w1.heap.size:=by have:=hb.size; simp at this; omega
 obtain ⟨s0,s1,s2,s3,c0,c1,c2,c3,es,fs⟩:=words_of s hs
 have HE:=Lib.hid he
 have HS:=Lib.hid hs
 have hq:=λw=>plus_any w s (k*4294968273) hs (by omega)
 simp only [fs, ← fv_kG k hk] at hq
 rw [fs]
 clear es fs he hb hp c0 c1 c2 c3 hs
 go_wp2_with fail
 refine (hq _).mono ?_
 rintro e w2 ⟨⟨u,j,hu,hj,hf,rfl⟩,hb⟩
 have hR2:Blk w2 (w.heap.size+2) 151 _:=(hR.alloc _).below hb (by simp <;> omega)
 have hT2:Blk w2 w1.heap.size 151 _:=(Blk.new w1 _ _).below hb (by simp)
 have hB2:Below w.heap.size w w2:=(hB.alloc (by omega) _).trans (hb.mono (by simp <;> omega))
 have hsz2:w1.heap.size+1≤w2.heap.size:=by have:=hb.size; simp at this; omega
 obtain ⟨u0,u1,u2,u3,d0,d1,d2,d3,eu,fu⟩:=words_of u hu
 have hu0:u0+j*4294968273<18446744073709551616:=by
  have:=HS.out
  rcases (show j=0∨j=1 by omega) with rfl | rfl <;> omega
 obtain ⟨jg,ejg⟩:∃ jg,jg=j*4294968273:=⟨_,rfl⟩
 obtain ⟨v0,ev0⟩:∃ v0,v0=u0+jg:=⟨_,rfl⟩
 have hJ:(j:Int)*4294968273=(jg:Int):=by omega
 have hV:(u0:Int)+(jg:Int)=(v0:Int):=by omega
 have hv0:v0<18446744073709551616:=by omega
 have HV:=Lib.hid (And.intro ev0 ejg)
 have HF:=Lib.hid hf
 have HU:=Lib.hid (And.intro eu (And.intro hu (And.intro d0 (And.intro d1 (And.intro d2 d3)))))
 rw [fu]
 clear eu fu hf hb hq hu d0 d1 d2 d3 hu0 ev0 ejg
 go_wp2_with (first | ((with_reducible refine here_store ?_); refine wpList_store_blk rfl _ _ _ rfl (w1.heap.size) _ rfl rfl _ _ (hT2) (by kernel_rfl) (by rfl) (by simp [Value.oneCell']) ?_; intro w3 hL3 hB3 hK3; have hR3:=hK3 _ (by omega) _ _ hR2; have hc3:=hL3.cell 0; have hf3:=hL3.frozen 0; simp only [List.getElem?_toArray,List.getElem?_cons_zero] at hc3) | ((with_reducible refine here_load (d:=some 27) ?_); refine wpList_load_blk rfl _ _ rfl (w1.heap.size) rfl _ _ _ (hL3.set0 _) Tryz.underlying151 rfl (by kernel_rfl) ?_) | ((with_reducible refine here_store ?_); refine wpList_store_blk rfl _ _ _ rfl (w.heap.size+2) _ rfl rfl _ _ (hR3.far (by simp <;> omega) _) (by kernel_rfl) (by rfl) (by simp [Value.oneCell']) ?_; intro w4 hL4 hB4 hK4))
 obtain ⟨eu,hu,d0,d1,d2,d3⟩:=HU.out
 obtain ⟨ev0,ejg⟩:=HV.out
 have hz:=fv_mk v0 u1 u2 u3 hv0 d1 d2 d3
 exact bodyPost_ret (results_cell_row rfl _ _ (w.heap.size+2) _ _ (0,0) _ rfl hL4 Tryz.underlying151 rfl (by kernel_rfl)) rfl ⟨⟨v0+18446744073709551616*u1+340282366920938463463374607431768211456*u2+6277101735386680763835789423207666416102355444464034512896*u3,s,k,u,j,HS.out,HE.out,hu,HF.out,by omega,by rw [← hz]⟩,hB2.trans ((hB3 _ (by omega)).trans ((Below.refl _ _).setCell (by simp <;> omega) _ |>.trans (hB4 _ (by omega))))⟩
end
end
section
section
open Go.RowKit Go.Lib
def fcs (n:Nat):Array Value:=#[qv (n%18446744073709551616),qv (n / 18446744073709551616%18446744073709551616),qv (n / 340282366920938463463374607431768211456%18446744073709551616),qv (n / 6277101735386680763835789423207666416102355444464034512896%18446744073709551616)]
theorem fv_fcs (n:Nat):fv n=.agg (fcs n):=rfl
theorem fcs_one (n:Nat):(fcs n).all (·.oneCell')=true:=by simp [fcs,qv,Value.oneCell']
theorem words_fv (n:Nat) (hn:n<(2^256)):∃ a b c d:Nat,fv n=.agg #[.int .u64 (a:Int),.int .u64 (b:Int),.int .u64 (c:Int),.int .u64 (d:Int)] :=
 (words_of n hn).imp λ_ h=>h.imp λ_ h=>h.imp λ_ h=>h.imp λ_ h=>h.2.2.2.2.2
theorem split_at {v:Value} (n:Nat) (h:fv n=v) (w:World):Calls Tryz.prog 102 #[v] w λe w'=>e=.returned (fv n)∧Below w.heap.size w w':=by
 subst h; exact split_any w n
theorem Gr.blk {w w':World} (h:Gr w w') {g:Nat} {t:TypeId} {cs:Array Value} (hg:Blk w g t cs):Blk w' g t cs:=Blk.below hg h hg.lt
theorem Below.gr {w a b:World} (h:Below w.heap.size w a) (g:Gr a b):Below w.heap.size w b:=Below.trans h (Below.mono g (Below.size h))
theorem fv_small (n:Nat) (hn:n<18446744073709551616):fv n=.agg #[.int .u64 (n:Int),.int .u64 0,.int .u64 0,.int .u64 0]:=(fv_mk n 0 0 0 hn (by omega) (by omega) (by omega)).symm
theorem plus_at {v1 v2:Value} (w:World) (x y s k:Nat) (h1:fv x=v1) (h2:fv y=v2) (hx:x<(2^256)) (hy:y<(2^256)) (hs:s<(2^256)) (he:s+(2^256)*k=x+y) :
  Calls Tryz.prog 120 #[v1,v2] w λe w'=>e=.returned (.tuple #[fv s,.int .u64 (k:Int)])∧Below w.heap.size w w':=by
 subst h1 h2
 refine (plus_any w x y hx hy).mono ?_
 rintro e w' ⟨⟨s',k',hs',hk',he',rfl⟩,hb⟩
 obtain rfl:k'=k:=by omega
 obtain rfl:s'=s:=by omega
 exact ⟨rfl,hb⟩
theorem minus_at {v1 v2:Value} (w:World) (x y s k:Nat) (h1:fv x=v1) (h2:fv y=v2) (hx:x<(2^256)) (hy:y<(2^256)) (hs:s<(2^256)) (he:s+y=x+(2^256)*k) :
  Calls Tryz.prog 122 #[v1,v2] w λe w'=>e=.returned (.tuple #[fv s,.int .u64 (k:Int)])∧Below w.heap.size w w':=by
 subst h1 h2
 refine (minus_any w x y hx hy).mono ?_
 rintro e w' ⟨⟨s',k',hs',hk',he',rfl⟩,hb⟩
 obtain rfl:k'=k:=by omega
 obtain rfl:s'=s:=by omega
 exact ⟨rfl,hb⟩
theorem wpList_load_fv {P:Program} {ops:Array Oper} {rest:List Oper} {o:Oper} {a:Act} {w:World} {Q:Exit→Act→World→Prop} (hgd:o.guard=none) (ty:TypeId) (x:Operand) (ho:o.op=.load ty x)
  (g:Nat) (hx:a.eval x=.pointer (some ⟨g,0,none⟩)) (n:Nat) (t:TypeId) (cs:Array Value) (d:TypeDesc) (hg:Blk w g t cs) (hf:fv n=.agg cs)
  (hu:P.underlying ty=some d) (hd:(match d with | .struct _ | .array _ _=>true | _=>false)=true) (hi:(P.info? ty).map (·.size)=some cs.size)
  (h:wpList P ops Q rest (a.put o.dst (fv n)) w):wpList P ops Q (o::rest) a w :=
 wpList_load_row hgd ty x ho g hx t cs (0,0) d hg hu hd hi (hf ▸ h)
section
variable {P:Program} {ops:Array Oper} {Q:Exit→Act→World→Prop} {md:Region.Mode} {ex:Nat→Bool}
theorem YieldsG.loadF {o:Oper} {a:Act} {w:World} {d:TypeDesc} (hw:Region.wanted o (yielded ops a.tmps)=true) (ty:TypeId) (x:Operand) (ho:o.op=.load ty x)
  (g:Nat) (hx:a.eval x=.pointer (some ⟨g,0,none⟩)) (n:Nat) (t:TypeId) (c:Array Value) (hg:Blk w g t c) (hf:fv n=.agg c)
  (hu:P.underlying ty=some d) (hd:d.isRow=true) (hi:(P.info? ty).map (·.size)=some c.size):YieldsG P ops o (fv n) a w:=by
 have h:=YieldsG.load (P:=P) (ops:=ops) (o:=o) (a:=a) (w:=w) hw ty x ho g 0 hx c.toList d hg.lt (λj v hj=>by
  rw [Nat.zero_add,hg.cell]
  simpa using hj) hu hd (by simpa using hi)
 rw [hf]
 simpa using h
theorem wpAnyG_store (i:Nat) {oi:Oper} {fuel:Nat} {listed:Array Bool} {a:Act} {w:World} (hi0:ops.toList[i]? = some oi) (hr:Region.ready md ops listed=[i])
  (hw:Region.wanted oi (yielded ops a.tmps)=true) (ty:TypeId) (x y:Operand) (ho:oi.op=.store ty x y) (g:Nat) (cells:Array Value) (hx:a.eval x=.pointer (some ⟨g,0,none⟩)) (hy:a.eval y=.agg cells)
  (t:TypeId) (c:Array Value) (hg:Blk w g t c) (hi:(P.info? ty).map (·.size)=some cells.size) (hold:c.size=cells.size) (h1:cells.all (·.oneCell')=true) (hex:ex i=true)
  (h:∀ w1,Gr w w1→∀ w2,(∀ B,B≤g→Below B w1 w2)→Blk w2 g t cells→wpAnyG P md ops Q ex fuel (listed.setIfInBounds i true) (a.put oi.dst undef) w2) :
  wpAnyG P md ops Q ex (fuel+1) listed a w :=
 wpAnyG_sole i hi0 hr hw (λw1 hw1 K hK=>wp_store_row ty x y ho g cells hx hy t c (hw1.blk hg) hi hold h1
  (hK _ _ (λe=>by rw [hex] at e; cases e) (h w1 hw1 _ (λ_ hB=>below_setRow (Below.refl _ _) hB _) ((hw1.blk hg).setRow cells))))
end
open Go.RowKit
section
variable {P:Program} {ops:Array Oper} {Q:Exit→Act→World→Prop} {md:Region.Mode} {ex:Nat→Bool}
theorem wpOp_putA {j:Nat} {oi oj:Oper} {v:Value} (hj:ops[j]? = some oj) (hap:oi.apart ops oj=true)
  (hsi:∀ cs b,oi.op≠.select cs b) (hsj:∀ cs b,oj.op≠.select cs b)
  (hQ:∀ c a w,Q (.panic c) (a.put oi.dst v) w→Q (.panic c) a w) {K:Act→World→Prop} {a:Act} {w:World}
  (hy:∀ w0,YieldsG P ops oi v a w0) (h:wpOp P ops Q j K (a.put oi.dst v) w) :
  wpOp P ops Q j (λa' w'=>(∀ w0,YieldsG P ops oi v a' w0)∧K (a'.put oi.dst v) w') a w:=by
 obtain ⟨h1,h2,h3⟩:=Oper.apart_spec hap
 have keep:∀ (a:Act),(∀ w0,YieldsG P ops oi v a w0)→∀ u w0,YieldsG P ops oi v (a.put oj.dst u) w0:=λa hy u w0 =>
  (hy w0).of_same (execOp_put oi hsi a oj.dst u h3) (wanted_put oi a oj.dst u h3)
 have keepD:∀ d w0,YieldsG P ops oi v { a with defers:=d::a.defers } w0:=λd w0=>(hy w0).of_same rfl rfl
 unfold wpOp at *
 simp only [hj] at *
 rw [wanted_put oj a oi.dst v h1] at h
 split
 ·rename_i hw
  simp only [hw,if_true] at h
  rcases h with h | ⟨hasks,hlets⟩
  case inr=>exact .inr ⟨by unfold Oper.asks at *; rw [execOp_put oj hsj a oi.dst v h1] at hasks; exact hasks,hlets⟩
  refine .inl ?_
  unfold Oper.wp at *
  rw [execOp_put oj hsj a oi.dst v h1] at h
  generalize (execOp a.eval oj).run P w=r at *
  cases r with
  | ok n w' =>
   cases n <;> simp only [Oper.upon] at h ⊢
   case value u=>exact ⟨keep a hy u,by rw [← Act.put_comm a v u h2]; exact h⟩
   case skip=>exact ⟨keep a hy _,by rw [← Act.put_comm a v undef h2]; exact h⟩
   case defer d =>
    refine ⟨keep _ (keepD d) _,?_⟩
    rw [← Act.put_comm _ v undef h2, ← Act.put_defers]
    exact h
   case enter f args =>
    refine Calls.mono h λe w'' he=>?_
    cases e with
    | returned u=>exact ⟨keep a hy u,by rw [← Act.put_comm a v u h2]; exact he⟩
    | panicked c=>exact hQ _ _ _ he
    | outgrown=>exact he
   case row row args=>exact Rows.mono h λu w'' he=>⟨keep a hy u,by rw [← Act.put_comm a v u h2]; exact he⟩
  | halt x w' =>
   cases x <;> simp only [Oper.upon] at h ⊢
   case panic u=>exact hQ _ _ _ h
 ·rename_i hw
  simp only [hw] at h
  exact ⟨keep a hy _,by rw [← Act.put_comm a v undef h2]; exact h⟩
theorem wpAnyG_firstA {i:Nat} {oi:Oper} {v:Value} (hi:ops[i]? = some oi) (hsel:∀ (j:Nat) (o:Oper) cs b,ops[j]? = some o→o.op≠.select cs b)
  (hQ:∀ c a w,Q (.panic c) (a.put oi.dst v) w→Q (.panic c) a w) :
  ∀ (fuel:Nat) (listed:Array Bool) (a:Act) (w:World),
   (∀ j oj,ops[j]? = some oj→j≠i→listed.getD j true=false→(∀ e∈oj.after,Region.binds md e=true→e.on≠i)→oi.apart ops oj=true) →
   i∈Region.ready md ops listed→(∀ w0,YieldsG P ops oi v a w0) →
   wpAnyG P md ops Q ex fuel (listed.setIfInBounds i true) (a.put oi.dst v) w→wpAnyG P md ops Q ex (fuel+1) listed a w:=by
 intro fuel
 induction fuel with
 | zero =>
  intro listed a w _ hr hy H w1 hw1
  refine ⟨λh=>(by rw [h] at hr; cases hr),λj hj=>?_⟩
  by_cases hji:j=i
  ·subst hji; exact (hy w1).wpOp hi (λw' h'=>⟨λ_=>h',wpAnyG_grow _ _ _ _ _ (hw1.trans h') H⟩)
  ·have:=ready_mono hj hji
   rw [H.1] at this
   cases this
 | succ fuel ih =>
  intro listed a w hfree hr hy H w1 hw1
  refine ⟨λh=>(by rw [h] at hr; cases hr),λj hj=>?_⟩
  by_cases hji:j=i
  ·subst hji; exact (hy w1).wpOp hi (λw' h'=>⟨λ_=>h',wpAnyG_grow _ _ _ _ _ (hw1.trans h') H⟩)
  ·have h1:=(H w1 hw1).2 j (ready_mono hj hji)
   obtain ⟨hjun,oj,hoj,hall⟩:=mem_ready.1 hj
   have hnot:∀ e∈oj.after,Region.binds md e=true→e.on≠i:=λe he hb heq=>by
    have h1:=hall e he hb
    have h0:=(mem_ready.1 hr).1
    rw [heq] at h1
    rcases Nat.lt_or_ge i listed.size with h' | h'
    ·simp [h'] at h0 h1; rw [h0] at h1; cases h1
    ·simp [Array.getElem?_eq_none h'] at h1
   have h2:=wpOp_putA hoj (hfree j oj hoj hji hjun hnot) (λcs b=>hsel i oi cs b hi) (λcs b=>hsel j oj cs b hoj) hQ hy h1
   have hfree':∀ k ok,ops[k]? = some ok→k≠i→(listed.setIfInBounds j true).getD k true=false →
     (∀ e∈ok.after,Region.binds md e=true→e.on≠i)→oi.apart ops ok=true:=λk ok hk hki hun hno=>by
    refine hfree k ok hk hki ?_ hno
    by_cases hjk:j=k
    ·subst hjk; exact hjun
    ·rw [getD_set_ne true hjk] at hun; exact hun
   refine wpOp_mono (λa' w' h3=>⟨h3.2.1,ih (listed.setIfInBounds j true) a' w' hfree' (ready_mono hr (Ne.symm hji)) h3.1 ?_⟩) h2
   rw [Array.setIfInBounds_comm _ _ hji]
   exact h3.2.2
def canTakeA (md:Region.Mode) (ops:Array Oper) (listed:Array Bool) (i:Nat):Bool :=
 Region.noSelect ops && Region.free md ops listed i && (Region.ready md ops listed).contains i
theorem wpAnyG_takeA (i:Nat) {oi:Oper} {v:Value} {fuel:Nat} {listed:Array Bool} {a:Act} {w:World} (hi0:ops.toList[i]? = some oi) (hc:canTakeA md ops listed i=true)
  (hQ:∀ c a w,Q (.panic c) (a.put oi.dst v) w→Q (.panic c) a w) (hy:∀ w0,YieldsG P ops oi v a w0)
  (h:wpAnyG P md ops Q ex fuel (listed.setIfInBounds i true) (a.put oi.dst v) w):wpAnyG P md ops Q ex (fuel+1) listed a w:=by
 have hi:ops[i]? = some oi:=by simpa using hi0
 unfold canTakeA at hc
 simp only [Bool.and_eq_true] at hc
 exact wpAnyG_firstA hi (Region.noSelect_spec hc.1.1) hQ fuel listed a w (Region.free_spec hi hc.1.2) (by simpa using hc.2) hy h
end
section
variable {P:Program} {ops:Array Oper} {Q:Exit→Act→World→Prop} {md:Region.Mode} {ex:Nat→Bool}
theorem wpAnyG_storeK (i:Nat) {oi:Oper} {fuel:Nat} {listed:Array Bool} {a:Act} {w:World} (hi0:ops.toList[i]? = some oi) (hr:Region.ready md ops listed=[i])
  (hw:Region.wanted oi (yielded ops a.tmps)=true) (ty:TypeId) (x y:Operand) (ho:oi.op=.store ty x y) (g:Nat) (cells:Array Value) (hx:a.eval x=.pointer (some ⟨g,0,none⟩)) (hy:a.eval y=.agg cells)
  (t:TypeId) (c:Array Value) (hg:Blk w g t c) (hi:(P.info? ty).map (·.size)=some cells.size) (hold:c.size=cells.size) (h1:cells.all (·.oneCell')=true) (hex:ex i=true)
  (h:∀ w1,Gr w w1→∀ w2,(∀ B,B≤g→Below B w1 w2)→(∀ k,k≠g→∀ t' cs',Blk w1 k t' cs'→Blk w2 k t' cs')→Blk w2 g t cells→wpAnyG P md ops Q ex fuel (listed.setIfInBounds i true) (a.put oi.dst undef) w2) :
  wpAnyG P md ops Q ex (fuel+1) listed a w :=
 wpAnyG_sole i hi0 hr hw (λw1 hw1 K hK=>wp_store_row ty x y ho g cells hx hy t c (hw1.blk hg) hi hold h1
  (hK _ _ (λe=>by rw [hex] at e; cases e) (h w1 hw1 _ (λ_ hB=>below_setRow (Below.refl _ _) hB _) (λ_ hk _ _ hb=>hb.setRow_far hk _) ((hw1.blk hg).setRow cells))))
theorem YieldsG.again {o:Oper} {a:Act} {w:World} (hw:Region.wanted o (yielded ops a.tmps)=true) (ty:TypeId) (x y:Operand) (ho:o.op=.store ty x y)
  (g:Nat) (cells:Array Value) (hx:a.eval x=.pointer (some ⟨g,0,none⟩)) (hy:a.eval y=.agg cells) (t:TypeId) (hg:Blk w g t cells)
  (hi:(P.info? ty).map (·.size)=some cells.size) (h1:cells.all (·.oneCell')=true):YieldsG P ops o undef a w :=
 .inl ⟨hw,λw1 hw1=>by
  have hg1:=hw1.blk hg
  unfold Gives execOp
  simp only [ho,hx,hy,Instr.storeAt,Instr.sureAddr,Sem.run_bind,Sem.run_pure,Result.andThen_ok,run_storeVar_row w1 g t ty cells cells hg1 hi rfl h1]
  refine ⟨trivial,rfl,rfl,rfl,by simp,λk _=>?_⟩
  by_cases hk:k=g
  ·subst hk; exact (hg1.setRow cells).trans hg1.symm
  ·exact heap_setRow_far w1 g k cells hk⟩
theorem wpAnyG_duo (i j:Nat) {oi oj:Oper} {fuel:Nat} {listed:Array Bool} {a:Act} {w:World} (hi0:ops.toList[i]? = some oi) (hj0:ops.toList[j]? = some oj) (hr:Region.ready md ops listed=[i,j])
  (hwi:Region.wanted oi (yielded ops a.tmps)=true) (hwj:Region.wanted oj (yielded ops a.tmps)=true)
  (h1:∀ w1,Gr w w1→∀ K:Act→World→Prop,(∀ a' w',(ex i=false→Gr w1 w')→wpAnyG P md ops Q ex fuel (listed.setIfInBounds i true) a' w'→K a' w')→Oper.wp P oi a w1 K Q)
  (h2:∀ w1,Gr w w1→∀ K:Act→World→Prop,(∀ a' w',(ex j=false→Gr w1 w')→wpAnyG P md ops Q ex fuel (listed.setIfInBounds j true) a' w'→K a' w')→Oper.wp P oj a w1 K Q) :
  wpAnyG P md ops Q ex (fuel+1) listed a w:=λw1 hw1 =>
 ⟨λh0=>(by rw [hr] at h0; cases h0),λm hm=>by
  rw [hr] at hm
  have hi:ops[i]? = some oi:=by simpa using hi0
  have hj:ops[j]? = some oj:=by simpa using hj0
  rcases (show m=i∨m=j by simpa using hm) with rfl | rfl
  ·refine wpOp_step hi (λK' hK=>?_)
   rw [if_pos hwi]
   exact h1 w1 hw1 K' (λa' w' h1 h2=>hK a' w' ⟨h1,h2⟩)
  ·refine wpOp_step hj (λK' hK=>?_)
   rw [if_pos hwj]
   exact h2 w1 hw1 K' (λa' w' h1 h2=>hK a' w' ⟨h1,h2⟩)⟩
end
end
end
section
section
open Go.RowKit
section
variable {P:Program} {ops:Array Oper} {Q:Exit→Act→World→Prop} {md:Region.Mode} {V:List (Nat×Obj)}
structure GrV (V:List (Nat×Obj)) (w w':World):Prop where
 os:w'.os=w.os
 tape:w'.tape=w.tape
 output:w'.output=w.output
 size:w.heap.size≤w'.heap.size
 block:∀ k,k<w.heap.size→w'.heap[k]? = w.heap[k]? ∨ ∃ o,(k,o)∈V∧w'.heap[k]? = some o
theorem GrV.refl (w:World):GrV V w w:=⟨rfl,rfl,rfl,Nat.le_refl _,λ_ _=>.inl rfl⟩
theorem GrV.trans {a b c:World} (h:GrV V a b) (k:GrV V b c):GrV V a c :=
 ⟨k.os.trans h.os,k.tape.trans h.tape,k.output.trans h.output,Nat.le_trans h.size k.size,λi hi=>by
  rcases k.block i (Nat.lt_of_lt_of_le hi h.size) with e | e
  ·rw [e]; exact h.block i hi
  ·exact .inr e⟩
theorem GrV.of_gr {w w':World} (h:Gr w w'):GrV V w w':=⟨h.os,h.tape,h.output,h.size,λk hk=>.inl (h.block k hk)⟩
theorem GrV.far {w w':World} (h:GrV V w w') {g:Nat} (hl:g<w.heap.size) (hg:V.all (λx=>x.1 != g)=true):w'.heap[g]? = w.heap[g]?:=by
 rcases h.block g hl with e | ⟨o,hm,_⟩
 ·exact e
 ·have:=List.all_eq_true.1 hg _ hm
  simp at this
theorem GrV.blk {w w':World} (h:GrV V w w') {g:Nat} {t:TypeId} {cs:Array Value} (hg:Blk w g t cs) (hf:V.all (λx=>x.1 != g)=true):Blk w' g t cs:=(h.far hg.lt hf).trans hg
theorem GrV.done {w w':World} (h:GrV V w w') {g:Nat} {t:TypeId} {cs:Array Value} (hg:Blk w g t cs) (hv:∀ o,(g,o)∈V→o=.cells cs t):Blk w' g t cs:=by
 rcases h.block g hg.lt with e | ⟨o,hm,e⟩
 ·exact e.trans hg
 ·rw [hv o hm] at e; exact e
theorem GrV.some {w w':World} (h:GrV V w w') {g n:Nat} {t:TypeId} {cs:Array Value} (hg:Blk w g t cs) (hn:cs.size=n) (hv:∀ o,(g,o)∈V→∃ c:Array Value,o=.cells c t∧c.size=n):∃ c:Array Value,Blk w' g t c∧c.size=n:=by
 rcases h.block g hg.lt with e | ⟨o,hm,e⟩
 ·exact ⟨cs,e.trans hg,hn⟩
 ·obtain ⟨c,rfl,hc⟩:=hv o hm
  exact ⟨c,e,hc⟩
theorem GrV.below {w w':World} (h:GrV V w w') {B:Nat} (hB:B≤w.heap.size) (hV:∀ x∈V,B≤x.1):Below B w w' :=
 ⟨h.os,h.tape,h.output,h.size,λk hk=>by
  rcases h.block k (by omega) with e | ⟨o,hm,_⟩
  ·exact e
  ·have:=hV _ hm
   simp at this
   omega⟩
theorem GrV.setRow {w:World} {g:Nat} {t:TypeId} {c cs:Array Value} (hg:Blk w g t c) (hm:(g,.cells cs t)∈V):GrV V w (w.setRow g cs) :=
 ⟨rfl,rfl,rfl,by simp,λk _=>by
  by_cases hk:k=g
  ·subst hk; exact .inr ⟨_,hm,hg.setRow cs⟩
  ·exact .inl (heap_setRow_far w g k cs hk)⟩
def GivesV (P:Program) (V:List (Nat×Obj)) (s:Sem Next) (v:Value) (w:World):Prop :=
 match s.run P w with
 | .ok (.value u) w'=>u=v∧GrV V w w'
 | .ok .skip w'=>v=undef∧GrV V w w'
 | .ok (.enter f args) w'=>Calls P f args w' λe w''=>e=.returned v∧GrV V w w''
 | _=>False
def YieldsV (P:Program) (V:List (Nat×Obj)) (ops:Array Oper) (o:Oper) (v:Value) (a:Act) (w:World):Prop :=
 (Region.wanted o (yielded ops a.tmps)=true∧∀ w1,GrV V w w1→GivesV P V (execOp a.eval o) v w1)∨(Region.wanted o (yielded ops a.tmps)=false∧v=undef)
theorem YieldsV.of_same {o:Oper} {v:Value} {a a':Act} {w:World} (hy:YieldsV P V ops o v a w) (he:execOp a'.eval o=execOp a.eval o)
  (hw:Region.wanted o (yielded ops a'.tmps)=Region.wanted o (yielded ops a.tmps)):YieldsV P V ops o v a' w:=by
 unfold YieldsV at *
 rw [he,hw]
 exact hy
theorem YieldsV.grow {o:Oper} {v:Value} {a:Act} {w w1:World} (hy:YieldsV P V ops o v a w) (hg:GrV V w w1):YieldsV P V ops o v a w1 :=
 hy.imp (λ⟨h,k⟩=>⟨h,λw2 h2=>k w2 (hg.trans h2)⟩) id
theorem YieldsV.wpOp {i:Nat} {o:Oper} {v:Value} {a:Act} (hi:ops[i]? = some o) {K:Act→World→Prop} {w:World} (hy:YieldsV P V ops o v a w)
  (h:∀ w',GrV V w w'→K (a.put o.dst v) w'):wpOp P ops Q i K a w:=by
 unfold Go.wpOp
 simp only [hi]
 rcases hy with ⟨hw,hv⟩ | ⟨hw,rfl⟩
 ·simp only [hw,if_true]
  refine .inl ?_
  have h0:=hv w (GrV.refl w)
  unfold GivesV at h0
  unfold Oper.wp
  generalize (execOp a.eval o).run P w=r at *
  cases r with
  | ok n w' =>
   cases n <;> simp only [Oper.upon] at h0 ⊢
   case value u=>rw [h0.1]; exact h _ h0.2
   case skip=>rw [← h0.1]; exact h _ h0.2
   case enter f args =>
    refine Calls.mono h0 λe w'' he=>?_
    rw [he.1]
    exact h _ he.2
  | halt x w'=>cases x <;> exact h0.elim
 ·simp only [hw,Bool.false_eq_true,if_false]
  exact h _ (GrV.refl w)
theorem wpOp_putV {j:Nat} {oi oj:Oper} {v:Value} {w0:World} (hj:ops[j]? = some oj) (hap:oi.apart ops oj=true)
  (hsi:∀ cs b,oi.op≠.select cs b) (hsj:∀ cs b,oj.op≠.select cs b)
  (hQ:∀ c a w,Q (.panic c) (a.put oi.dst v) w→Q (.panic c) a w) {K:Act→World→Prop} {a:Act} {w:World}
  (hy:YieldsV P V ops oi v a w0) (h:wpOp P ops Q j K (a.put oi.dst v) w) :
  wpOp P ops Q j (λa' w'=>YieldsV P V ops oi v a' w0∧K (a'.put oi.dst v) w') a w:=by
 obtain ⟨h1,h2,h3⟩:=Oper.apart_spec hap
 have keep:∀ (a:Act),YieldsV P V ops oi v a w0→∀ u,YieldsV P V ops oi v (a.put oj.dst u) w0:=λa hy u =>
  hy.of_same (execOp_put oi hsi a oj.dst u h3) (wanted_put oi a oj.dst u h3)
 have keepD:∀ d,YieldsV P V ops oi v { a with defers:=d::a.defers } w0:=λd=>hy.of_same rfl rfl
 unfold wpOp at *
 simp only [hj] at *
 rw [wanted_put oj a oi.dst v h1] at h
 split
 ·rename_i hw
  simp only [hw,if_true] at h
  rcases h with h | ⟨hasks,hlets⟩
  case inr=>exact .inr ⟨by unfold Oper.asks at *; rw [execOp_put oj hsj a oi.dst v h1] at hasks; exact hasks,hlets⟩
  refine .inl ?_
  unfold Oper.wp at *
  rw [execOp_put oj hsj a oi.dst v h1] at h
  generalize (execOp a.eval oj).run P w=r at *
  cases r with
  | ok n w' =>
   cases n <;> simp only [Oper.upon] at h ⊢
   case value u=>exact ⟨keep a hy u,by rw [← Act.put_comm a v u h2]; exact h⟩
   case skip=>exact ⟨keep a hy _,by rw [← Act.put_comm a v undef h2]; exact h⟩
   case defer d =>
    refine ⟨keep _ (keepD d) _,?_⟩
    rw [← Act.put_comm _ v undef h2, ← Act.put_defers]
    exact h
   case enter f args =>
    refine Calls.mono h λe w'' he=>?_
    cases e with
    | returned u=>exact ⟨keep a hy u,by rw [← Act.put_comm a v u h2]; exact he⟩
    | panicked c=>exact hQ _ _ _ he
    | outgrown=>exact he
   case row row args=>exact Rows.mono h λu w'' he=>⟨keep a hy u,by rw [← Act.put_comm a v u h2]; exact he⟩
  | halt x w' =>
   cases x <;> simp only [Oper.upon] at h ⊢
   case panic u=>exact hQ _ _ _ h
 ·rename_i hw
  simp only [hw] at h
  exact ⟨keep a hy _,by rw [← Act.put_comm a v undef h2]; exact h⟩
def wpAnyV (P:Program) (V:List (Nat×Obj)) (md:Region.Mode) (ops:Array Oper) (Q:Exit→Act→World→Prop):Nat→Array Bool→Act→World→Prop
 | 0,listed,a,w=>Region.ready md ops listed=[]∧∀ w1,GrV V w w1→Q .normal a w1
 | fuel+1,listed,a,w=>∀ w1,GrV V w w1 →
  (Region.ready md ops listed=[]→Q .normal a w1) ∧
  ∀ i∈Region.ready md ops listed,wpOp P ops Q i (λa' w'=>GrV V w1 w'∧wpAnyV P V md ops Q fuel (listed.setIfInBounds i true) a' w') a w1
theorem wpAny_of_V:∀ (fuel:Nat) (listed:Array Bool) (a:Act) (w:World),wpAnyV P V md ops Q fuel listed a w→wpAny P md ops Q fuel listed a w
 | 0,_,_,w,h=>⟨h.1,h.2 w (GrV.refl w)⟩
 | fuel+1,_,_,w,h=>⟨(h w (GrV.refl w)).1,λi hi=>wpOp_mono (λa' w' h'=>wpAny_of_V fuel _ a' w' h'.2) ((h w (GrV.refl w)).2 i hi)⟩
theorem wpAnyV_grow:∀ (fuel:Nat) (listed:Array Bool) (a:Act) (w w1:World),GrV V w w1→wpAnyV P V md ops Q fuel listed a w→wpAnyV P V md ops Q fuel listed a w1
 | 0,_,_,_,_,hg,h=>⟨h.1,λw2 h2=>h.2 w2 (hg.trans h2)⟩
 | _+1,_,_,_,_,hg,h=>λw2 h2=>h w2 (hg.trans h2)
theorem wpAnyV_first {i:Nat} {oi:Oper} {v:Value} (hi:ops[i]? = some oi) (hsel:∀ (j:Nat) (o:Oper) cs b,ops[j]? = some o→o.op≠.select cs b)
  (hQ:∀ c a w,Q (.panic c) (a.put oi.dst v) w→Q (.panic c) a w) :
  ∀ (fuel:Nat) (listed:Array Bool) (a:Act) (w:World),
   (∀ j oj,ops[j]? = some oj→j≠i→listed.getD j true=false→(∀ e∈oj.after,Region.binds md e=true→e.on≠i)→oi.apart ops oj=true) →
   i∈Region.ready md ops listed→YieldsV P V ops oi v a w →
   wpAnyV P V md ops Q fuel (listed.setIfInBounds i true) (a.put oi.dst v) w→wpAnyV P V md ops Q (fuel+1) listed a w:=by
 intro fuel
 induction fuel with
 | zero =>
  intro listed a w _ hr hy H w1 hw1
  refine ⟨λh=>(by rw [h] at hr; cases hr),λj hj=>?_⟩
  by_cases hji:j=i
  ·subst hji; exact (hy.grow hw1).wpOp hi (λw' h'=>⟨h',wpAnyV_grow _ _ _ _ _ (hw1.trans h') H⟩)
  ·have:=ready_mono hj hji
   rw [H.1] at this
   cases this
 | succ fuel ih =>
  intro listed a w hfree hr hy H w1 hw1
  refine ⟨λh=>(by rw [h] at hr; cases hr),λj hj=>?_⟩
  by_cases hji:j=i
  ·subst hji; exact (hy.grow hw1).wpOp hi (λw' h'=>⟨h',wpAnyV_grow _ _ _ _ _ (hw1.trans h') H⟩)
  ·have h1:=(H w1 hw1).2 j (ready_mono hj hji)
   obtain ⟨hjun,oj,hoj,hall⟩:=mem_ready.1 hj
   have hnot:∀ e∈oj.after,Region.binds md e=true→e.on≠i:=λe he hb heq=>by
    have h1:=hall e he hb
    have h0:=(mem_ready.1 hr).1
    rw [heq] at h1
    rcases Nat.lt_or_ge i listed.size with h' | h'
    ·simp [h'] at h0 h1; rw [h0] at h1; cases h1
    ·simp [Array.getElem?_eq_none h'] at h1
   have h2:=wpOp_putV hoj (hfree j oj hoj hji hjun hnot) (λcs b=>hsel i oi cs b hi) (λcs b=>hsel j oj cs b hoj) hQ hy h1
   have hfree':∀ k ok,ops[k]? = some ok→k≠i→(listed.setIfInBounds j true).getD k true=false →
     (∀ e∈ok.after,Region.binds md e=true→e.on≠i)→oi.apart ops ok=true:=λk ok hk hki hun hno=>by
    refine hfree k ok hk hki ?_ hno
    by_cases hjk:j=k
    ·subst hjk; exact hjun
    ·rw [getD_set_ne true hjk] at hun; exact hun
   refine wpOp_mono (λa' w' h3=>⟨h3.2.1,ih (listed.setIfInBounds j true) a' w' hfree' (ready_mono hr (Ne.symm hji)) (h3.1.grow (hw1.trans h3.2.1)) ?_⟩) h2
   rw [Array.setIfInBounds_comm _ _ hji]
   exact h3.2.2
theorem wpAnyV_take (i:Nat) {oi:Oper} {v:Value} {fuel:Nat} {listed:Array Bool} {a:Act} {w:World} (hi0:ops.toList[i]? = some oi) (hc:canTakeA md ops listed i=true)
  (hQ:∀ c a w,Q (.panic c) (a.put oi.dst v) w→Q (.panic c) a w) (hy:YieldsV P V ops oi v a w)
  (h:wpAnyV P V md ops Q fuel (listed.setIfInBounds i true) (a.put oi.dst v) w):wpAnyV P V md ops Q (fuel+1) listed a w:=by
 have hi:ops[i]? = some oi:=by simpa using hi0
 unfold canTakeA at hc
 simp only [Bool.and_eq_true] at hc
 exact wpAnyV_first hi (Region.noSelect_spec hc.1.1) hQ fuel listed a w (Region.free_spec hi hc.1.2) (by simpa using hc.2) hy h
theorem wpAnyV_sole (i:Nat) {oi:Oper} {fuel:Nat} {listed:Array Bool} {a:Act} {w:World} (hi0:ops.toList[i]? = some oi) (hr:Region.ready md ops listed=[i])
  (hw:Region.wanted oi (yielded ops a.tmps)=true)
  (h:∀ w1,GrV V w w1→∀ K:Act→World→Prop,(∀ a' w',GrV V w1 w'→wpAnyV P V md ops Q fuel (listed.setIfInBounds i true) a' w'→K a' w')→Oper.wp P oi a w1 K Q) :
  wpAnyV P V md ops Q (fuel+1) listed a w:=λw1 hw1 =>
 ⟨λh0=>(by rw [hr] at h0; cases h0),λj hj=>by
  rw [hr] at hj
  obtain rfl:j=i:=by simpa using hj
  have hi:ops[j]? = some oi:=by simpa using hi0
  refine wpOp_step hi (λK' hK=>?_)
  rw [if_pos hw]
  exact h w1 hw1 K' (λa' w' h1 h2=>hK a' w' ⟨h1,h2⟩)⟩
theorem wpAnyV_done {fuel:Nat} {listed:Array Bool} {a:Act} {w:World} (hr:Region.ready md ops listed=[]) (h:∀ w1,GrV V w w1→Q .normal a w1):wpAnyV P V md ops Q fuel listed a w:=by
 cases fuel with
 | zero=>exact ⟨hr,h⟩
 | succ n=>exact λw1 hw1=>⟨λ_=>h w1 hw1,λi hi=>by rw [hr] at hi; cases hi⟩
theorem wp_region_V (V:List (Nat×Obj)) {id:Nat} {a:Act} {w:World} (hm:P.follows .mixedOrders=true) (h:wpAnyV P V .any ops Q ops.size (Array.replicate ops.size false) a w):(Code.region id ops true).wp P Q a w :=
 wp_region_any hm (wpAny_of_V _ _ _ _ (wpAnyV_grow _ _ _ w _ (GrV.of_gr ((Below.refl _ _).drew)) h))
theorem YieldsV.pure {o:Oper} {v:Value} {a:Act} {w:World} (hw:Region.wanted o (yielded ops a.tmps)=true) (h:∀ w1,GrV V w w1→(execOp a.eval o).run P w1=.ok (.value v) w1):YieldsV P V ops o v a w :=
 .inl ⟨hw,λw1 h1=>by unfold GivesV; rw [h w1 h1]; exact ⟨rfl,GrV.refl _⟩⟩
theorem wpAnyV_store (i:Nat) {oi:Oper} {fuel:Nat} {listed:Array Bool} {a:Act} {w:World} (hi0:ops.toList[i]? = some oi) (hr:Region.ready md ops listed=[i])
  (hw:Region.wanted oi (yielded ops a.tmps)=true) (ty:TypeId) (x y:Operand) (ho:oi.op=.store ty x y) (g:Nat) (cells:Array Value) (hx:a.eval x=.pointer (some ⟨g,0,none⟩)) (hy:a.eval y=.agg cells)
  (t:TypeId) (hm:(g,.cells cells t)∈V) (hg:∀ w1,GrV V w w1→∃ c:Array Value,Blk w1 g t c∧c.size=cells.size) (hi:(P.info? ty).map (·.size)=some cells.size) (h1:cells.all (·.oneCell')=true)
  (h:∀ w1,GrV V w w1→∀ w2,GrV V w1 w2→Blk w2 g t cells→wpAnyV P V md ops Q fuel (listed.setIfInBounds i true) (a.put oi.dst undef) w2) :
  wpAnyV P V md ops Q (fuel+1) listed a w :=
 wpAnyV_sole i hi0 hr hw (λw1 hw1 K hK=>by
  obtain ⟨c,hb,hc⟩:=hg w1 hw1
  exact wp_store_row ty x y ho g cells hx hy t c hb hi hc h1 (hK _ _ (GrV.setRow hb hm) (h w1 hw1 _ (GrV.setRow hb hm) (hb.setRow cells))))
end
end
end
section
section
open Go.RowKit
section
variable {P:Program} {ops:Array Oper} {Q:Exit→Act→World→Prop} {md:Region.Mode} {ex:Nat→Bool}
theorem wpAnyG_firstB {i:Nat} {oi:Oper} {v:Value} (bs:Nat→Bool) (hi:ops[i]? = some oi) (hsel:∀ (j:Nat) (o:Oper) cs b,ops[j]? = some o→o.op≠.select cs b)
  (hQ:∀ c a w,Q (.panic c) (a.put oi.dst v) w→Q (.panic c) a w) (hex:∀ k ok,ops[k]? = some ok→ex k=true→bs k=true)
  (hbs:∀ k ok,ops[k]? = some ok→bs k=true→∃ e∈ok.after,Region.binds md e=true∧(e.on=i∨bs e.on=true)) :
  ∀ (fuel:Nat) (listed:Array Bool) (a:Act) (w:World),(∀ k,bs k=true→listed.getD k true=false) →
   (∀ j oj,ops[j]? = some oj→j≠i→listed.getD j true=false→bs j=false→oi.apart ops oj=true) →
   i∈Region.ready md ops listed→YieldsG P ops oi v a w →
   wpAnyG P md ops Q ex fuel (listed.setIfInBounds i true) (a.put oi.dst v) w→wpAnyG P md ops Q ex (fuel+1) listed a w:=by
 intro fuel
 induction fuel with
 | zero =>
  intro listed a w _ _ hr hy H w1 hw1
  refine ⟨λh=>(by rw [h] at hr; cases hr),λj hj=>?_⟩
  by_cases hji:j=i
  ·subst hji; exact (hy.grow hw1).wpOp hi (λw' h'=>⟨λ_=>h',wpAnyG_grow _ _ _ _ _ (hw1.trans h') H⟩)
  ·have:=ready_mono hj hji
   rw [H.1] at this
   cases this
 | succ fuel ih =>
  intro listed a w hl hfree hr hy H w1 hw1
  refine ⟨λh=>(by rw [h] at hr; cases hr),λj hj=>?_⟩
  by_cases hji:j=i
  ·subst hji; exact (hy.grow hw1).wpOp hi (λw' h'=>⟨λ_=>h',wpAnyG_grow _ _ _ _ _ (hw1.trans h') H⟩)
  ·have h1:=(H w1 hw1).2 j (ready_mono hj hji)
   obtain ⟨hjun,oj,hoj,hall⟩:=mem_ready.1 hj
   have hun:∀ k,listed.getD k true=false→listed.getD k false=true→False:=λk h0 h1=>by
    rcases Nat.lt_or_ge k listed.size with h' | h'
    ·simp [h'] at h0 h1; rw [h0] at h1; cases h1
    ·simp [Array.getElem?_eq_none h'] at h1
   have hbj:bs j=false:=by
    cases hb:bs j with
    | false=>rfl
    | true =>
     obtain ⟨e,he,hbd,ho⟩:=hbs j oj hoj hb
     have h2:=hall e he hbd
     rcases ho with ho | ho
     ·rw [ho] at h2; exact (hun i (mem_ready.1 hr).1 h2).elim
     ·exact (hun e.on (hl e.on ho) h2).elim
   have hexj:ex j=false:=by
    cases hxj:ex j with
    | false=>rfl
    | true=>rw [hex j oj hoj hxj] at hbj; cases hbj
   have h2:=wpOp_putG hoj (hfree j oj hoj hji hjun hbj) (λcs b=>hsel i oi cs b hi) (λcs b=>hsel j oj cs b hoj) hQ hy h1
   have hl':∀ k,bs k=true→(listed.setIfInBounds j true).getD k true=false:=λk hk=>by
    have hjk:j≠k:=λe=>by rw [← e,hbj] at hk; cases hk
    rw [getD_set_ne true hjk]; exact hl k hk
   have hfree':∀ k ok,ops[k]? = some ok→k≠i→(listed.setIfInBounds j true).getD k true=false→bs k=false→oi.apart ops ok=true:=λk ok hk hki hun hno=>by
    refine hfree k ok hk hki ?_ hno
    by_cases hjk:j=k
    ·subst hjk; exact hjun
    ·rw [getD_set_ne true hjk] at hun; exact hun
   refine wpOp_mono (λa' w' h3=>⟨h3.2.1,ih (listed.setIfInBounds j true) a' w' hl' hfree' (ready_mono hr (Ne.symm hji)) (h3.1.grow (hw1.trans (h3.2.1 hexj))) ?_⟩) h2
   rw [Array.setIfInBounds_comm _ _ hji]
   exact h3.2.2
def canTakeB (md:Region.Mode) (ops:Array Oper) (listed:Array Bool) (ex:Nat→Bool) (i:Nat) (bs:List Nat):Bool :=
 Region.noSelect ops && (Region.ready md ops listed).contains i && (bs.all λk=>!(listed.getD k true)) &&
 (match ops[i]? with
  | none=>false
  | some oi=>(List.range ops.size).all λk=>match ops[k]? with
   | none=>true
   | some ok=>(!(bs.contains k) || ok.after.any λe=>Region.binds md e && (e.on == i || bs.contains e.on)) && (!(ex k) || bs.contains k) && (k == i || listed.getD k true || bs.contains k || oi.apart ops ok))
theorem wpAnyG_takeB (i:Nat) (bs:List Nat) {oi:Oper} {v:Value} {fuel:Nat} {listed:Array Bool} {a:Act} {w:World} (hi0:ops.toList[i]? = some oi) (hc:canTakeB md ops listed ex i bs=true)
  (hQ:∀ c a w,Q (.panic c) (a.put oi.dst v) w→Q (.panic c) a w) (hy:YieldsG P ops oi v a w)
  (h:wpAnyG P md ops Q ex fuel (listed.setIfInBounds i true) (a.put oi.dst v) w):wpAnyG P md ops Q ex (fuel+1) listed a w:=by
 have hi:ops[i]? = some oi:=by simpa using hi0
 unfold canTakeB at hc
 simp only [hi,Bool.and_eq_true] at hc
 obtain ⟨⟨⟨h1,h2⟩,h3⟩,h4⟩:=hc
 rw [List.all_eq_true] at h3 h4
 have h5:∀ k ok,ops[k]? = some ok→_:=λk ok hk=>by
  have h:=h4 k (List.mem_range.2 (Array.getElem?_eq_some_iff.1 hk).1)
  simp only [hk,Bool.and_eq_true] at h
  exact h
 refine wpAnyG_firstB (λk=>bs.contains k) hi (Region.noSelect_spec h1) hQ (λk ok hk he=>?_) (λk ok hk hb=>?_) fuel listed a w (λk hk=>?_) (λj oj hj hji hun hb=>?_) (by simpa using h2) hy h
 ·have h:=(h5 k ok hk).1.2
  simpa [he] using h
 ·have h:=(h5 k ok hk).1.1
  simp only [hb,Bool.not_true,Bool.false_or] at h
  rw [Array.any_eq_true'] at h
  obtain ⟨e,hm,hx⟩:=h
  simp only [Bool.and_eq_true,Bool.or_eq_true,beq_iff_eq] at hx
  exact ⟨e,hm,hx.1,hx.2⟩
 ·have h:=h3 k (by simpa using hk)
  simpa using h
 ·have h:=(h5 j oj hj).2
  simp only [hun,hb,Bool.or_false,Bool.or_eq_true,beq_iff_eq] at h
  exact h.resolve_left hji
end
end
end
section
namespace Sy
open Go.RowKit
section
variable {P:Program} {ops:Array Oper} {Q:Exit→Act→World→Prop} {md:Region.Mode} {l n:Nat}
theorem rowsIn_of {row:String} {args:Array Value} {w:World} {R:Value→World→Prop} (h:Rows P row args w R):RowsIn (Fence.wide.inRound l) n P row args w R :=
 λc cs _=>let ⟨v,w',r,s⟩:=h c cs; ⟨v,w',r,stepsIn_wide.2 s⟩
theorem callsIn_of {f:FuncId} {args:Array Value} {w:World} {R:Ending→World→Prop} (h:Calls P f args w R):CallsIn (Fence.wide.inRound l) n P f args w R:=CallsIn.inRound l (callsIn_wide.2 h)
theorem operIn_of {o:Oper} {a:Act} {w:World} {K:Act→World→Prop} (hd:∀ c,o.op≠.defer c) (h:o.wp P a w K Q):o.wpIn (Fence.wide.inRound l) n P a w K Q:=by
 unfold Oper.wpIn
 refine ⟨λ_ _=>trivial,?_⟩
 rw [Oper.semAt_eq _ _ _ hd]
 unfold Oper.wp at h
 generalize (execOp a.eval o).run P w=r at *
 cases r with
 | ok x w' =>
  cases x <;> simp only [Oper.upon,Oper.uponIn] at h ⊢ <;> first
   | exact h
   | exact ⟨λe=>by simp [Fence.wide] at e,callsIn_of h⟩
   | exact ⟨λe=>by simp [Fence.wide] at e,rowsIn_of h⟩
   | exact h.elim
 | halt x w'=>cases x <;> simp only [Oper.upon,Oper.uponIn] at h ⊢ <;> exact h
def noDefer (ops:Array Oper):Bool:=ops.all λo=>match o.op with | .defer _=>false | _=>true
theorem noDefer_spec (h:noDefer ops=true) {i:Nat} {o:Oper} (hi:ops[i]? = some o):∀ c,o.op≠.defer c:=λc e=>by
 unfold noDefer at h
 rw [Array.all_eq_true'] at h
 have:=h o (Array.mem_of_getElem? hi)
 rw [e] at this
 cases this
theorem wpOpIn_of (hq:¬ LetsOut Q) (hd:noDefer ops=true) {i:Nat} {K:Act→World→Prop} {a:Act} {w:World} (h:wpOp P ops Q i K a w):wpOpIn (Fence.wide.inRound l) n P ops Q i K a w:=by
 unfold wpOp at h
 unfold wpOpIn
 cases hi:ops[i]? with
 | none=>simpa [hi] using h
 | some o =>
  simp only [hi] at h ⊢
  split
  ·rename_i hw
   simp only [hw,if_true] at h
   rcases h with h | h
   ·exact operIn_of (noDefer_spec hd hi) h
   ·exact absurd h.2 hq
  ·rename_i hw
   simp only [hw] at h
   exact ⟨λ_ _=>trivial,h⟩
theorem wpAnyIn_of (hq:¬ LetsOut Q) (hd:noDefer ops=true):∀ (fuel:Nat) (listed:Array Bool) (a:Act) (w:World),wpAny P md ops Q fuel listed a w→wpAnyIn (Fence.wide.inRound l) n P md ops Q fuel listed a w
 | 0,_,_,_,h=>h
 | fuel+1,_,_,_,h=>⟨h.1,λi hi=>wpOpIn_mono (λa w h'=>wpAnyIn_of hq hd fuel _ a w h') (wpOpIn_of hq hd (h.2 i hi))⟩
theorem round_region_G (ex:Nat→Bool) {id:Nat} {a:Act} {w:World} (hm:P.follows .mixedOrders=true) (hq:¬ LetsOut Q) (hd:noDefer ops=true) (h:wpAnyG P .any ops Q ex ops.size (Array.replicate ops.size false) a w):(Code.region id ops true).wpIn (Fence.wide.inRound l) n P Q a w :=
 wpIn_region_any hm (wpAnyIn_of hq hd _ _ _ _ (wpAny_of_G _ _ _ _ (wpAnyG_grow _ _ _ w _ ((Below.refl _ _).drew) h)))
theorem listIn_of (hq:¬ LetsOut Q):∀ (rest:List Oper),(∀ o∈rest, ∀ c,o.op≠.defer c)→∀ (a:Act) (w:World),wpList P ops Q rest a w→wpListIn (Fence.wide.inRound l) n P ops Q rest a w
 | [],_,_,_,h=>h
 | o::rest,hd,a,w,h=>by
  unfold wpList at h
  unfold wpListIn
  split
  ·rename_i hw
   simp only [hw,if_true] at h
   rcases h with h | h
   ·exact Oper.wpIn_mono (λa w h'=>listIn_of hq rest (λo ho=>hd o (by simp [ho])) a w h') (operIn_of (hd o (by simp)) h)
   ·exact absurd h.2 hq
  ·rename_i hw
   simp only [hw] at h
   exact ⟨λ_ _=>trivial,listIn_of hq rest (λo ho=>hd o (by simp [ho])) _ _ h⟩
theorem round_region_L {id:Nat} {a:Act} {w:World} (hq:¬ LetsOut Q) (hd:noDefer ops=true) (h:wpList P ops Q ops.toList a w):(Code.region id ops false).wpIn (Fence.wide.inRound l) n P Q a w :=
 wpIn_region_list (listIn_of hq _ (λo ho=>by
  obtain ⟨i,hi⟩:=List.mem_iff_getElem?.1 ho
  exact noDefer_spec hd (by simpa using hi)) _ _ h)
end
end Sy
end
section
namespace Sy
open Go.RowKit
abbrev Slots:=List (Nat×Value)
abbrev Blocks:=List (Nat×TypeId×Array Value)
structure Base where
 world:World
 fz:World
 ds:List Deferred
 fence:Fence
 room:Nat
abbrev Base.of (w:World):Base:=⟨w,w,[],Fence.wide,9⟩
def Fr (ds:List Deferred) (a:Act) (n:Nat) (F:Slots):Prop:=a.defers=ds∧a.tmps.size=n∧∀ i v,F.lookup i=some v→a.tmps[i]? = some v
def evF (F:Slots):Operand→Value
 | .tmp t=>(F.lookup t).getD undef
 | .const v=>v
 | .global g=>.pointer (some ⟨g,0,none⟩)
 | .func f=>.func (.func f) #[] #[]
def inF (F:Slots):Operand→Bool
 | .tmp t=>(F.lookup t).isSome
 | _=>true
def putF (F:Slots):Option Tmp→Value→Slots
 | none,_=>F
 | some d,v=>(d,v)::F
def fits (n:Nat):Option Tmp→Bool
 | none=>true
 | some d=>decide (d<n)
theorem Fr.eval {ds:List Deferred} {a:Act} {n:Nat} {F:Slots} (h:Fr ds a n F) {x:Operand} (hx:inF F x=true):a.eval x=evF F x:=by
 cases x with
 | tmp t =>
  obtain ⟨v,hv⟩:=Option.isSome_iff_exists.1 hx
  have:=h.2.2 t v hv
  show a.tmps.getD t undef=(F.lookup t).getD undef
  rw [hv]
  simp [Array.getD_eq_getD_getElem?,this]
 | const v=>rfl
 | global g=>rfl
 | func f=>rfl
theorem Fr.put {ds:List Deferred} {a:Act} {n:Nat} {F:Slots} (h:Fr ds a n F) {d:Option Tmp} (hd:fits n d=true) (v:Value):Fr ds (a.put d v) n (putF F d v):=by
 cases d with
 | none=>exact h
 | some d =>
  have hd':d<n:=of_decide_eq_true hd
  refine ⟨h.1,by simp [Act.put,h.2.1],λi u hi=>?_⟩
  simp only [putF,List.lookup_cons] at hi
  simp only [Act.put]
  by_cases e:i=d
  ·subst e
   simp at hi
   subst hi
   rw [Array.getElem?_setIfInBounds_self_of_lt (by rw [h.2.1]; exact hd')]
  ·have e':(i == d)=false:=by simpa using e
   rw [e'] at hi
   rw [Array.getElem?_setIfInBounds_ne (Ne.symm e)]
   exact h.2.2 i u hi
theorem Fr.less {ds:List Deferred} {a:Act} {n:Nat} {F G:Slots} (h:Fr ds a n F) (hG:∀ i v,G.lookup i=some v→F.lookup i=some v):Fr ds a n G:=⟨h.1,h.2.1,λi v hi=>h.2.2 i v (hG i v hi)⟩
def stays:Obj→Bool
 | .cells _ _ fr=>fr != (0,0)
 | _=>true
theorem stays_of {o:Obj} (h:o.isCells=false):stays o=true:=by
 cases o <;> first | rfl | cases h
structure St (w0:Base) (w:World) (L:Blocks):Prop where
 below:Below w0.world.heap.size w0.world w
 blk:∀ g t cs,(g,t,cs)∈L→w0.world.heap.size≤g∧Blk w g t cs
 apart:(L.map (·.1)).Nodup
 size:w0.fz.heap.size≤w.heap.size
 non:∀ (k:Nat) (o:Obj),w0.world.heap.size≤k→w0.fz.heap[k]? = some o→stays o=true→w.heap[k]? = some o
theorem St.start (w:World):St (Base.of w) w []:=⟨Below.refl _ _,(λ_ _ _ h=>by cases h),List.Pairwise.nil,Nat.le_refl _,λ_ _ _ h _=>h⟩
theorem St.gr {w0:Base} {w w':World} {L:Blocks} (h:St w0 w L) (hg:Gr w w'):St w0 w' L :=
 ⟨Below.gr h.below hg,λg t cs hm=>⟨(h.blk g t cs hm).1,hg.blk (h.blk g t cs hm).2⟩,h.apart,Nat.le_trans h.size hg.size,λk o hk ho hc=>by
  have h1:=h.non k o hk ho hc
  exact (hg.block k (Array.getElem?_eq_some_iff.1 h1).1).trans h1⟩
theorem St.get {w0:Base} {w:World} {L:Blocks} (h:St w0 w L) {i g:Nat} {t:TypeId} {cs:Array Value} (hi:L[i]? = some (g,t,cs)):Blk w g t cs:=(h.blk g t cs (List.mem_of_getElem? hi)).2
theorem St.add {w0:Base} {w w':World} {L:Blocks} (h:St w0 w L) (hg:Gr w w') {g:Nat} {t:TypeId} {cs:Array Value} (hn:w.heap.size≤g) (hb:Blk w' g t cs):St w0 w' (L++[(g,t,cs)]):=by
 have h':=h.gr hg
 refine ⟨h'.below,λg' t' cs' hm=>?_,?_,h'.size,h'.non⟩
 ·rcases List.mem_append.1 hm with hm | hm
  ·exact h'.blk g' t' cs' hm
  ·obtain ⟨rfl,rfl,rfl⟩:g'=g∧t'=t∧cs'=cs:=by simpa using hm
   exact ⟨Nat.le_trans h.below.size hn,hb⟩
 ·rw [List.map_append,List.nodup_append]
  refine ⟨h.apart,by simp,λx hx y hy e=>?_⟩
  obtain ⟨⟨g',t',cs'⟩,hm,rfl⟩:=List.mem_map.1 hx
  have hlt:=(h.blk g' t' cs' hm).2.lt
  have:y=g:=by simpa using hy
  omega
theorem St.set {w0:Base} {w w':World} {L:Blocks} (h:St w0 w L) {i g:Nat} {t:TypeId} {cs cs':Array Value} (hi:L[i]? = some (g,t,cs)) (hg:w.grownBy w' (some g)) (hn:Blk w' g t cs'):St w0 w' (L.set i (g,t,cs')):=by
 have hil:=(List.getElem?_eq_some_iff.1 hi).1
 have hie:=(List.getElem?_eq_some_iff.1 hi).2
 have hbk:=h.blk g t cs (List.mem_of_getElem? hi)
 refine ⟨h.below.trans (below_of_only hg h.below.size hbk.1),λg1 t1 c1 hm=>?_,?_,Nat.le_trans h.size hg.size,λk o hk ho hc=>?_⟩
 ·obtain ⟨j,hj⟩:=List.getElem?_of_mem hm
  rw [List.getElem?_set] at hj
  by_cases e:i=j
  ·subst e
   rw [if_pos rfl,if_pos hil] at hj
   obtain ⟨rfl,rfl,rfl⟩:g=g1∧t=t1∧cs'=c1:=by simpa using hj
   exact ⟨hbk.1,hn⟩
  ·rw [if_neg e] at hj
   have hm1:=h.blk g1 t1 c1 (List.mem_of_getElem? hj)
   refine ⟨hm1.1,hm1.2.grown hg (λeg=>e ?_)⟩
   obtain rfl:g1=g:=by injection eg
   have hjl:=(List.getElem?_eq_some_iff.1 hj).1
   have hje:=(List.getElem?_eq_some_iff.1 hj).2
   have hp:=List.pairwise_iff_getElem.1 h.apart
   rcases Nat.lt_trichotomy i j with hlt | he | hlt
   ·exact (hp i j (by simpa using hil) (by simpa using hjl) hlt (by simp [hie,hje])).elim
   ·exact he
   ·exact (hp j i (by simpa using hjl) (by simpa using hil) hlt (by simp [hie,hje])).elim
 ·rw [List.map_set]
  have:(L.map (·.1)).set i g=L.map (·.1):=by
   apply List.ext_getElem?
   intro j
   rw [List.getElem?_set]
   by_cases e:i=j
   ·subst e
    rw [if_pos rfl,if_pos (by simpa using hil)]
    simp [hi]
   ·rw [if_neg e]
  show ((L.map (·.1)).set i g).Nodup
  rw [this]
  exact h.apart
 ·have h1:=h.non k o hk ho hc
  refine (hg.block k (Array.getElem?_eq_some_iff.1 h1).1 (λe=>?_)).trans h1
  obtain rfl:k=g:=by injection e
  have h2:=hbk.2
  unfold Blk at h2
  rw [h2] at h1
  cases h1
  simp [stays] at hc
theorem St.less {w0:Base} {w:World} {L M:Blocks} (h:St w0 w L) (hs:M.Sublist L):St w0 w M :=
 ⟨h.below,λg t cs hm=>h.blk g t cs (hs.subset hm),h.apart.sublist (hs.map _),h.size,h.non⟩
def wantedF (ops:Array Oper) (F:Slots) (o:Oper):Option Bool :=
 match o.guard with
 | none=>some true
 | some (j,want)=>match (ops[j]?).bind (·.dst) with
  | none=>some false
  | some t=>match F.lookup t with
   | some (.bool b)=>some (b == want)
   | some _=>some false
   | none=>none
theorem Fr.wanted {ds:List Deferred} {a:Act} {n:Nat} {F:Slots} (h:Fr ds a n F) {ops:Array Oper} {o:Oper} {b:Bool} (hw:wantedF ops F o=some b):Region.wanted o (yielded ops a.tmps)=b:=by
 unfold wantedF at hw
 unfold Region.wanted
 cases hg:o.guard with
 | none=>rw [hg] at hw; simpa using hw
 | some jw =>
  obtain ⟨j,want⟩:=jw
  rw [hg] at hw
  simp only at hw ⊢
  cases hd:(ops[j]?).bind (·.dst) with
  | none =>
   rw [hd] at hw
   simp only [yielded,hd,Option.bind_none] at hw ⊢
   simpa using hw
  | some t =>
   rw [hd] at hw
   simp only at hw
   cases hl:F.lookup t with
   | none=>rw [hl] at hw; cases hw
   | some v =>
    have hv:=h.2.2 t v hl
    rw [hl] at hw
    simp only [yielded,hd,Option.bind_some,hv]
    cases v <;> simp at hw ⊢ <;> exact hw
def good (ops:Array Oper) (n:Nat) (F:Slots) (o:Oper):Bool :=
 (wantedF ops F o == some true) && o.op.operands.all (inF F) && fits n o.dst && (match o.op with | .select ..=>false | _=>true)
theorem good_spec {ops:Array Oper} {n:Nat} {F:Slots} {o:Oper} (h:good ops n F o=true):wantedF ops F o=some true∧(∀ x∈o.op.operands,inF F x=true)∧fits n o.dst=true∧∀ cs b,o.op≠.select cs b:=by
 unfold good at h
 simp only [Bool.and_eq_true,beq_iff_eq] at h
 obtain ⟨⟨⟨h1,h2⟩,h3⟩,h4⟩:=h
 refine ⟨h1,Array.all_eq_true_iff_forall_mem.1 h2,h3,λcs b e=>?_⟩
 rw [e] at h4
 cases h4
theorem good_exec {ops:Array Oper} {n:Nat} {F:Slots} {o:Oper} (h:good ops n F o=true) {ds:List Deferred} {a:Act} (ha:Fr ds a n F):execOp a.eval o=execOp (evF F) o :=
 execOp_congr o (good_spec h).2.2.2 λx hx=>ha.eval ((good_spec h).2.1 x (by simpa using hx))
def Quiet (P:Program) (w0:Base) (F:Slots) (L:Blocks) (o:Oper) (v:Value):Prop:=∀ w,St w0 w L→Gives P (execOp (evF F) o) v w
theorem Quiet.pure {P:Program} {w0:Base} {F:Slots} {L:Blocks} {o:Oper} {v:Value} (h:∀ w,(execOp (evF F) o).run P w=.ok (.value v) w):Quiet P w0 F L o v:=λw _=>by
 unfold Gives; rw [h w]; exact ⟨rfl,Gr.refl _⟩
theorem Quiet.call {P:Program} {w0:Base} {F:Slots} {L:Blocks} {o:Oper} {v:Value} (f:FuncId) (args:Array Value) (he:∀ w,(execOp (evF F) o).run P w=.ok (.enter f args) w)
  (h:∀ w,Calls P f args w λe w'=>e=.returned v∧Below w.heap.size w w'):Quiet P w0 F L o v:=λw _=>by
 unfold Gives; rw [he w]; exact h w
theorem Quiet.load {P:Program} {w0:Base} {F:Slots} {L:Blocks} {o:Oper} (i g f k:Nat) (t ty:TypeId) (cs:Array Value) (d:TypeDesc) (x:Operand) (ho:o.op=.load ty x) (hx:evF F x=.pointer (some ⟨g,f,none⟩))
  (hL:L[i]? = some (g,t,cs)) (hu:P.underlying ty=some d) (hd:d.isRow=true) (hi:(P.info? ty).map (·.size)=some k) (v:Value) (hv:Value.agg ((cs.toList.drop f).take k).toArray=v) (hk:f+k≤cs.size):Quiet P w0 F L o v:=λw hw=>by
 have hb:=hw.get hL
 have hl:=run_loadVar_mid (P:=P) w g f ty ((cs.toList.drop f).take k) d (λj u hj=>by
  rw [hb.cell]
  have hlt:j<k:=by
   have:=(List.getElem?_eq_some_iff.1 hj).1
   simp at this; omega
  rw [List.getElem?_take_of_lt hlt,List.getElem?_drop] at hj
  simpa using hj) hu hd (by rw [hi]; simp; omega)
 unfold Gives execOp
 simp only [ho,hx,Instr.loadAt,Instr.sureAddr,Sem.run_bind,Sem.run_pure,Result.andThen_ok,hl]
 exact ⟨hv,Gr.refl _⟩
theorem Quiet.cell {P:Program} {w0:Base} {F:Slots} {L:Blocks} {o:Oper} (i g f:Nat) (t ty:TypeId) (cs:Array Value) (d:TypeDesc) (x:Operand) (ho:o.op=.load ty x) (hx:evF F x=.pointer (some ⟨g,f,none⟩))
  (hL:L[i]? = some (g,t,cs)) (hu:P.underlying ty=some d) (hd:d.isRow=false) (v:Value) (hv:cs[f]? = some v):Quiet P w0 F L o v:=λw hw=>by
 have hb:=hw.get hL
 have hc:w.cell? ⟨g,f,none⟩=some v:=(hb.cell f).trans hv
 have ha:(isAgg ty).run P w=.ok false w:=by
  cases d <;> first | (cases hd; done) | simp [isAgg,underlying,hu]
 unfold Gives execOp
 simp only [ho,hx,Instr.loadAt,Instr.sureAddr,Sem.run_bind,Sem.run_pure,Result.andThen_ok,loadVar,ha,Bool.false_eq_true,if_false,run_load,hc]
 exact ⟨trivial,Gr.refl _⟩
section
variable {P:Program} {w0:Base} {n:Nat}
def wpC (P:Program) (w0:Base) (n:Nat) (Q:Exit→Act→World→Prop) (F:Slots) (L:Blocks) (c:Code):Prop:=∀ a w,Fr w0.ds a n F→St w0 w L→c.wpIn w0.fence w0.room P Q a w
def wpS (P:Program) (w0:Base) (n:Nat) (ops:Array Oper) (Q:Exit→Act→World→Prop) (F:Slots) (L:Blocks) (l:List Oper):Prop:=∀ a w,Fr w0.ds a n F→St w0 w L→wpList P ops Q l a w
def wpD (P:Program) (w0:Base) (n:Nat) (ops:Array Oper) (Q:Exit→Act→World→Prop) (ex:Nat→Bool) (F:Slots) (L:Blocks) (fuel:Nat) (listed:Array Bool):Prop:=∀ a w,Fr w0.ds a n F→St w0 w L→wpAnyG P .any ops Q ex fuel listed a w
def X (w0:Base) (n:Nat) (Q:Exit→Act→World→Prop) (F:Slots) (L:Blocks) (e:Exit):Prop:=∀ a w,Fr w0.ds a n F→St w0 w L→Q e a w
variable {Q:Exit→Act→World→Prop} {F:Slots} {L:Blocks}
theorem seq {x y:Code} (h:wpC P w0 n (Exit.then (y.wpIn w0.fence w0.room P Q) Q) F L x):wpC P w0 n Q F L (.seq x y):=λa w ha hw=>wpIn_seq (h a w ha hw)
theorem then_ {y:Code} (h:wpC P w0 n Q F L y):X w0 n (Exit.then (y.wpIn w0.fence w0.room P Q) Q) F L .normal:=h
theorem then_ret {K:Act→World→Prop} (h:X w0 n Q F L .ret):X w0 n (Exit.then K Q) F L .ret:=h
theorem then_exit {K:Act→World→Prop} {i:Nat} (h:X w0 n Q F L (.exit i)):X w0 n (Exit.then K Q) F L (.exit i):=h
theorem block {i:Nat} {c:Code} (h:wpC P w0 n (Exit.inBlock i Q) F L c):wpC P w0 n Q F L (.block i c):=λa w ha hw=>wpIn_block (h a w ha hw)
theorem in_ {i:Nat} (h:X w0 n Q F L .normal):X w0 n (Exit.inBlock i Q) F L .normal:=h
theorem in_ret {i:Nat} (h:X w0 n Q F L .ret):X w0 n (Exit.inBlock i Q) F L .ret:=h
theorem in_exit {i:Nat} (h:X w0 n Q F L .normal):X w0 n (Exit.inBlock i Q) F L (.exit i):=λa w ha hw=>by
 show if i=i then Q .normal a w else Q (.exit i) a w
 rw [if_pos rfl]; exact h a w ha hw
theorem skip (h:X w0 n Q F L .normal):wpC P w0 n Q F L .skip:=λa w ha hw=>wpIn_skip (h a w ha hw)
theorem ret (h:X w0 n Q F L .ret):wpC P w0 n Q F L .ret:=λa w ha hw=>wpIn_ret (h a w ha hw)
theorem exit {i:Nat} (h:X w0 n Q F L (.exit i)):wpC P w0 n Q F L (.exit i):=λa w ha hw=>wpIn_exit (h a w ha hw)
theorem cond_t {c:Operand} {x y:Code} (hi:inF F c=true) (hc:evF F c=.bool true) (h:wpC P w0 n Q F L x):wpC P w0 n Q F L (.cond c x y):=λa w ha hw=>wpIn_cond_true ((ha.eval hi).trans hc) (h a w ha hw)
theorem cond_f {c:Operand} {x y:Code} (hi:inF F c=true) (hc:evF F c=.bool false) (h:wpC P w0 n Q F L y):wpC P w0 n Q F L (.cond c x y):=λa w ha hw=>wpIn_cond_false ((ha.eval hi).trans hc) (h a w ha hw)
variable {ops:Array Oper} {o:Oper} {l:List Oper}
theorem region {i:Nat} (h:wpS P w0 n ops Q F L ops.toList) (hf:w0.fence=Fence.wide:=by rfl):wpC P w0 n Q F L (.region i ops false):=λa w ha hw=>by
 rw [hf]
 exact wpIn_wide.2 (wp_region_list (h a w ha hw))
theorem regionR {i:Nat} (hq:¬ LetsOut Q) (hd:noDefer ops=true) (hf:∃ l,w0.fence=Fence.wide.inRound l) (h:wpS P w0 n ops Q F L ops.toList):wpC P w0 n Q F L (.region i ops false):=λa w ha hw=>by
 obtain ⟨l,hf⟩:=hf
 rw [hf]
 exact round_region_L hq hd (h a w ha hw)
theorem nil (h:X w0 n Q F L .normal):wpS P w0 n ops Q F L []:=λa w ha hw=>wpList_nil (h a w ha hw)
theorem step (hg:good ops n F o=true) (v:Value) (hq:Quiet P w0 F L o v) (h:wpS P w0 n ops Q (putF F o.dst v) L l):wpS P w0 n ops Q F L (o::l):=λa w ha hw=>by
 obtain ⟨g1,_,g3,_⟩:=good_spec hg
 refine wpList_step λK hK=>?_
 rw [if_pos (ha.wanted g1)]
 have h0:=hq w hw
 have he:=good_exec hg ha
 unfold Gives at h0
 unfold Oper.wp
 rw [he]
 generalize (execOp (evF F) o).run P w=r at *
 cases r with
 | ok x w' =>
  cases x <;> simp only [Oper.upon] at h0 ⊢
  case value u=>rw [h0.1]; exact hK _ _ (h _ _ (ha.put g3 v) (hw.gr h0.2))
  case skip=>rw [← h0.1]; exact hK _ _ (h _ _ (ha.put g3 v) (hw.gr h0.2))
  case enter f args =>
   refine Calls.mono h0 λe w'' he=>?_
   rw [he.1]
   exact hK _ _ (h _ _ (ha.put g3 v) (hw.gr he.2))
 | halt x w'=>cases x <;> exact h0.elim
theorem pass (hg:wantedF ops F o=some false) (hd:fits n o.dst=true) (h:wpS P w0 n ops Q (putF F o.dst undef) L l):wpS P w0 n ops Q F L (o::l):=λa w ha hw=>by
 refine wpList_step λK hK=>?_
 rw [if_neg (by rw [ha.wanted hg]; exact Bool.false_ne_true)]
 exact hK _ _ (h _ _ (ha.put hd undef) hw)
def Makes (P:Program) (F:Slots) (o:Oper) (t:TypeId) (cs:Array Value) (val:Nat→Value):Prop:=∀ w,(execOp (evF F) o).run P w=.ok (.value (val w.heap.size)) (w.alloc (.cells cs t))
def ptr (g:Nat):Value:=.pointer (some ⟨g,0,none⟩)
theorem make (hg:good ops n F o=true) (t:TypeId) (cs:Array Value) (val:Nat→Value) (hm:Makes P F o t cs val) (h:∀ g,wpS P w0 n ops Q (putF F o.dst (val g)) (L++[(g,t,cs)]) l):wpS P w0 n ops Q F L (o::l):=λa w ha hw=>by
 obtain ⟨g1,_,g3,_⟩:=good_spec hg
 refine wpList_step λK hK=>?_
 rw [if_pos (ha.wanted g1)]
 unfold Oper.wp
 rw [good_exec hg ha,hm w]
 exact hK _ _ (h w.heap.size _ _ (ha.put g3 _) (hw.add (gr_alloc w _) (Nat.le_refl _) (Blk.new w t cs)))
def Writes (P:Program) (F:Slots) (o:Oper) (g:Nat) (t:TypeId) (cs cs':Array Value):Prop :=
 ∀ w,Blk w g t cs→∃ w',(execOp (evF F) o).run P w=.ok .skip w'∧w.grownBy w' (some g)∧Blk w' g t cs'
theorem Writes.store {F:Slots} {o:Oper} (f:Nat) {g:Nat} {t:TypeId} {cs cs':Array Value} (ty:TypeId) (cells:Array Value) (x y:Operand) (ho:o.op=.store ty x y) (hx:evF F x=.pointer (some ⟨g,f,none⟩)) (hy:evF F y=.agg cells)
  (hi:(P.info? ty).map (·.size)=some cells.size) (hk:f+cells.size≤cs.size) (h1:cells.all (·.oneCell')=true) (hcs:setAll cs f cells.toList=cs'):Writes P F o g t cs cs' :=
 λw hb=>⟨w.setCells g f cells.toList,by
  unfold execOp
  simp only [ho,hx,hy,run_storeAt_mid w g f ty cells (hb.there f cells.size hk) hi h1,Sem.run_bind,Sem.run_pure,Result.andThen_ok],
  only_setCells cells.toList f w (World.grownBy.refl w (some g)),
  hcs ▸ Blk.setCells cells.toList f w cs hb⟩
theorem write (hg:good ops n F o=true) (i g:Nat) (t:TypeId) (cs cs':Array Value) (hL:L[i]? = some (g,t,cs)) (hm:Writes P F o g t cs cs') (h:wpS P w0 n ops Q (putF F o.dst undef) (L.set i (g,t,cs')) l):wpS P w0 n ops Q F L (o::l):=λa w ha hw=>by
 obtain ⟨g1,_,g3,_⟩:=good_spec hg
 obtain ⟨w',h1,h2,h3⟩:=hm w (hw.get hL)
 refine wpList_step λK hK=>?_
 rw [if_pos (ha.wanted g1)]
 unfold Oper.wp
 rw [good_exec hg ha,h1]
 exact hK _ _ (h _ _ (ha.put g3 _) (hw.set hL h2 h3))
variable {ex:Nat→Bool} {fuel:Nat} {listed:Array Bool}
theorem regionD {i:Nat} (ex:Nat→Bool) (hm:P.follows .mixedOrders=true) (h:wpD P w0 n ops Q ex F L ops.size (Array.replicate ops.size false)) (hf:w0.fence=Fence.wide:=by rfl):wpC P w0 n Q F L (.region i ops true):=λa w ha hw=>by
 rw [hf]
 exact wpIn_wide.2 (wp_region_G ex hm (h a w ha hw))
theorem regionRD {i:Nat} (hq:¬ LetsOut Q) (hd:noDefer ops=true) (hf:∃ l,w0.fence=Fence.wide.inRound l) (ex:Nat→Bool) (hm:P.follows .mixedOrders=true) (h:wpD P w0 n ops Q ex F L ops.size (Array.replicate ops.size false)):wpC P w0 n Q F L (.region i ops true):=λa w ha hw=>by
 obtain ⟨l,hf⟩:=hf
 rw [hf]
 exact round_region_G ex hm hq hd (h a w ha hw)
theorem doneD (hr:Region.ready .any ops listed=[]) (h:X w0 n Q F L .normal):wpD P w0 n ops Q ex F L fuel listed:=λa _ ha hw=>wpAnyG_done hr λw1 h1=>h a w1 ha (hw.gr h1)
theorem quiet_yields {o:Oper} {v:Value} {a:Act} {w:World} (hg:good ops n F o=true) (hq:Quiet P w0 F L o v) (ha:Fr w0.ds a n F) (hw:St w0 w L):YieldsG P ops o v a w :=
 .inl ⟨ha.wanted (good_spec hg).1,λw1 h1=>by rw [good_exec hg ha]; exact hq w1 (hw.gr h1)⟩
theorem stepD (i:Nat) {oi:Oper} (hi0:ops.toList[i]? = some oi) (hc:canTake .any ops listed ex i=true) (hQ:∀ c v a w,Q (.panic c) (a.put oi.dst v) w→Q (.panic c) a w)
  (hg:good ops n F oi=true) (v:Value) (hq:Quiet P w0 F L oi v) (h:wpD P w0 n ops Q ex (putF F oi.dst v) L fuel (listed.setIfInBounds i true)):wpD P w0 n ops Q ex F L (fuel+1) listed:=λ_ _ ha hw =>
 wpAnyG_take i hi0 hc (λc=>hQ c v) (quiet_yields hg hq ha hw) (h _ _ (ha.put (good_spec hg).2.2.1 v) hw)
theorem stepDB (i:Nat) (bs:List Nat) {oi:Oper} (hi0:ops.toList[i]? = some oi) (hc:canTakeB .any ops listed ex i bs=true) (hQ:∀ c v a w,Q (.panic c) (a.put oi.dst v) w→Q (.panic c) a w)
  (hg:good ops n F oi=true) (v:Value) (hq:Quiet P w0 F L oi v) (h:wpD P w0 n ops Q ex (putF F oi.dst v) L fuel (listed.setIfInBounds i true)):wpD P w0 n ops Q ex F L (fuel+1) listed:=λ_ _ ha hw =>
 wpAnyG_takeB i bs hi0 hc (λc=>hQ c v) (quiet_yields hg hq ha hw) (h _ _ (ha.put (good_spec hg).2.2.1 v) hw)
theorem stepDA (i:Nat) {oi:Oper} (hi0:ops.toList[i]? = some oi) (hc:canTakeA .any ops listed i=true) (hQ:∀ c v a w,Q (.panic c) (a.put oi.dst v) w→Q (.panic c) a w)
  (hg:good ops n F oi=true) (v:Value) (hq:∀ w,(execOp (evF F) oi).run P w=.ok (.value v) w) (h:wpD P w0 n ops Q ex (putF F oi.dst v) L fuel (listed.setIfInBounds i true)):wpD P w0 n ops Q ex F L (fuel+1) listed:=λa w ha hw =>
 wpAnyG_takeA i hi0 hc (λc=>hQ c v) (λw'=>.inl ⟨ha.wanted (good_spec hg).1,λw1 _=>by rw [good_exec hg ha]; unfold Gives; rw [hq w1]; exact ⟨rfl,Gr.refl _⟩⟩) (h _ _ (ha.put (good_spec hg).2.2.1 v) hw)
theorem passD (i:Nat) {oi:Oper} (hi0:ops.toList[i]? = some oi) (hc:canTake .any ops listed ex i=true) (hQ:∀ c v a w,Q (.panic c) (a.put oi.dst v) w→Q (.panic c) a w)
  (hg:wantedF ops F oi=some false) (hd:fits n oi.dst=true) (h:wpD P w0 n ops Q ex (putF F oi.dst undef) L fuel (listed.setIfInBounds i true)):wpD P w0 n ops Q ex F L (fuel+1) listed:=λ_ _ ha hw =>
 wpAnyG_take i hi0 hc (λc=>hQ c undef) (YieldsG.skip (ha.wanted hg)) (h _ _ (ha.put hd undef) hw)
theorem makeD (i:Nat) {oi:Oper} (hi0:ops.toList[i]? = some oi) (hr:Region.ready .any ops listed=[i]) (hg:good ops n F oi=true) (t:TypeId) (cs:Array Value) (val:Nat→Value) (hm:Makes P F oi t cs val)
  (h:∀ g,wpD P w0 n ops Q ex (putF F oi.dst (val g)) (L++[(g,t,cs)]) fuel (listed.setIfInBounds i true)):wpD P w0 n ops Q ex F L (fuel+1) listed:=λa w ha hw =>
 wpAnyG_sole i hi0 hr (ha.wanted (good_spec hg).1) λw1 h1 K hK=>by
  unfold Oper.wp
  rw [good_exec hg ha,hm w1]
  exact hK _ _ (λ_=>gr_alloc w1 _) (h w1.heap.size _ _ (ha.put (good_spec hg).2.2.1 _) ((hw.gr h1).add (gr_alloc w1 _) (Nat.le_refl _) (Blk.new w1 t cs)))
theorem writeD (k:Nat) {oi:Oper} (hi0:ops.toList[k]? = some oi) (hr:Region.ready .any ops listed=[k]) (hex:ex k=true) (hg:good ops n F oi=true) (i g:Nat) (t:TypeId) (cs cs':Array Value) (hL:L[i]? = some (g,t,cs)) (hm:Writes P F oi g t cs cs')
  (h:wpD P w0 n ops Q ex (putF F oi.dst undef) (L.set i (g,t,cs')) fuel (listed.setIfInBounds k true)):wpD P w0 n ops Q ex F L (fuel+1) listed:=λa w ha hw =>
 wpAnyG_sole k hi0 hr (ha.wanted (good_spec hg).1) λw1 h1 K hK=>by
  obtain ⟨w',e1,e2,e3⟩:=hm w1 ((hw.gr h1).get hL)
  unfold Oper.wp
  rw [good_exec hg ha,e1]
  exact hK _ _ (λe=>by rw [hex] at e; cases e) (h _ _ (ha.put (good_spec hg).2.2.1 _) ((hw.gr h1).set hL e2 e3))
def Gets (w0:World) (v:Value) (e:Ending) (w':World):Prop:=e=.returned v∧Below w0.heap.size w0 w'
def slotsOf:Nat→List Value→Slots
 | _,[]=>[]
 | i,v::r=>(i,v)::slotsOf (i+1) r
theorem lookup_slotsOf:∀ (l:List Value) (i j:Nat) (v:Value),(slotsOf i l).lookup j=some v→i≤j∧l[j - i]? = some v
 | [],_,_,_,h=>by cases h
 | u::r,i,j,v,h=>by
  simp only [slotsOf,List.lookup_cons] at h
  by_cases e:j=i
  ·subst e
   simp at h
   subst h
   exact ⟨Nat.le_refl _,by simp⟩
  ·have e':(j == i)=false:=by simpa using e
   rw [e'] at h
   obtain ⟨h1,h2⟩:=lookup_slotsOf r (i+1) j v h
   refine ⟨by omega,?_⟩
   rw [show j - i=(j - (i+1))+1 by omega]
   simpa using h2
theorem enter {f:FuncId} {fn:Func} {c:Code} {args:List Value} {w:World} {R:Ending→World→Prop} (hf:P.funcs[f]? = some fn) (hb:fn.body=some c) (hn:args.length≤fn.ntmps)
  (h:wpC P (Base.of w) fn.ntmps (bodyPost P fn R) (slotsOf 0 args) [] c):Calls P f args.toArray w R :=
 calls_of_wp hf hb (wpIn_wide.1 (h _ _ ⟨rfl,by simp; omega,λi v hi=>by
  have:=(lookup_slotsOf args 0 i v hi).2
  rw [Nat.sub_zero] at this
  have hl:=(List.getElem?_eq_some_iff.1 this).1
  rw [Array.getElem?_append_left (by simpa using hl)]
  simpa using this⟩ (St.start w)))
theorem enterM {f:FuncId} {fn:Func} {c:Code} {args:List Value} {w:World} {R:Ending→World→Prop} (hf:P.funcs[f]? = some fn) (hb:fn.body=some c) (hn:args.length≤fn.ntmps)
  (h:wpC P (Base.of w) fn.ntmps (bodyPostM Fence.wide 9 P fn R) (slotsOf 0 args) [] c):Calls P f args.toArray w R :=
 (callsIn_wide (n:=9)).1 (callsIn_of_wp_marks hf hb trivial (h _ _ ⟨rfl,by simp; omega,λi v hi=>by
  have:=(lookup_slotsOf args 0 i v hi).2
  rw [Nat.sub_zero] at this
  have hl:=(List.getElem?_eq_some_iff.1 this).1
  rw [Array.getElem?_append_left (by simpa using hl)]
  simpa using this⟩ (St.start w)) rfl)
def Res (P:Program) (F:Slots) (L:Blocks) (r:ResultVar) (v:Value):Prop :=
 match r with
 | .tmp t=>F.lookup t=some v
 | .cell t ty=>∃ (g i:Nat) (ty':TypeId) (cs:Array Value) (d:TypeDesc),F.lookup t=some (.pointer (some ⟨g,0,none⟩))∧L[i]? = some (g,ty',cs)∧P.underlying ty=some d∧d.isRow=true∧(P.info? ty).map (·.size)=some cs.size∧v=.agg cs
theorem Res.cell {t:Tmp} {ty ty':TypeId} {v:Value} (g i:Nat) (cs:Array Value) (d:TypeDesc) (h1:F.lookup t=some (.pointer (some ⟨g,0,none⟩))) (h2:L[i]? = some (g,ty',cs)) (h3:P.underlying ty=some d) (h4:d.isRow=true) (h5:(P.info? ty).map (·.size)=some cs.size) (h6:v=.agg cs):Res P F L (.cell t ty) v :=
 ⟨g,i,ty',cs,d,h1,h2,h3,h4,h5,h6⟩
def ResC (P:Program) (F:Slots) (L:Blocks) (t:Tmp) (ty:TypeId) (v:Value):Prop :=
 ∃ (g i:Nat) (ty':TypeId) (cs:Array Value) (d:TypeDesc),F.lookup t=some (.pointer (some ⟨g,0,none⟩))∧L[i]? = some (g,ty',cs)∧P.underlying ty=some d∧d.isRow=false∧cs[0]? = some v
abbrev Has (P:Program) (F:Slots) (L:Blocks) (r:ResultVar) (v:Value):Prop:=Res P F L r v∨∃ t ty,r=.cell t ty∧ResC P F L t ty v
theorem Res.run {ds:List Deferred} {a:Act} {w:World} {r:ResultVar} {v:Value} (h:Has P F L r v) (ha:Fr ds a n F) (hw:St w0 w L) :
  (∃ t,r=.tmp t∧a.tmps[t]?.getD undef=v)∨∃ t ty ad,r=.cell t ty∧(asAddr (a.tmps[t]?.getD undef)).run P w=.ok ad w∧(loadVar ty ad).run P w=.ok v w:=by
 rcases h with h | ⟨t,ty,rfl,g,i,ty',cs,d,h1,h2,h3,h4,h5⟩
 ·cases r with
  | tmp t=>exact .inl ⟨t,rfl,by simp [ha.2.2 t v h]⟩
  | cell t ty =>
   obtain ⟨g,i,ty',cs,d,h1,h2,h3,h4,h5,rfl⟩:=h
   have e2:=run_loadVar_row (P:=P) w g ty' ty cs (0,0) d (hw.get h2) h3 (by cases d <;> first | rfl | cases h4) h5
   exact .inr ⟨t,ty,⟨g,0,none⟩,rfl,by simp [ha.2.2 t _ h1,asAddr],e2⟩
 ·have hb:=hw.get h2
  have hc:w.cell? ⟨g,0,none⟩=some v:=(hb.cell 0).trans h5
  have hag:(isAgg ty).run P w=.ok false w:=by
   cases d <;> first | (cases h4; done) | simp [isAgg,underlying,h3]
  exact .inr ⟨t,ty,⟨g,0,none⟩,rfl,by simp [ha.2.2 t _ h1,asAddr],by simp [loadVar,hag,hc,Result.andThen]⟩
theorem ret1 {w1:World} {fn:Func} {r:ResultVar} {v:Value} (hr:fn.results=#[r]) (h:Has P F L r v):X (Base.of w1) n (bodyPost P fn (Gets w1 v)) F L .ret:=λa w ha hw=>by
 refine bodyPost_ret (v:=v) ?_ ha.1 ⟨rfl,hw.below⟩
 rcases Res.run h ha hw with ⟨t,rfl,e1⟩ | ⟨t,ty,ad,rfl,e1,e2⟩ <;> simp [results,Result.andThen, *]
theorem ret2 {w1:World} {fn:Func} {r s:ResultVar} {v u:Value} (hr:fn.results=#[r,s]) (h:Has P F L r v) (k:Has P F L s u):X (Base.of w1) n (bodyPost P fn (Gets w1 (.tuple #[v,u]))) F L .ret:=λa w ha hw=>by
 refine bodyPost_ret (v:=.tuple #[v,u]) ?_ ha.1 ⟨rfl,hw.below⟩
 rcases Res.run h ha hw with ⟨t,rfl,e1⟩ | ⟨t,ty,ad,rfl,e1,e2⟩ <;> rcases Res.run k ha hw with ⟨t',rfl,f1⟩ | ⟨t',ty',ad',rfl,f1,f2⟩ <;> simp [results,Result.andThen, *]
theorem ret3 {w1:World} {fn:Func} {r s q:ResultVar} {v u x:Value} (hr:fn.results=#[r,s,q]) (h:Has P F L r v) (k:Has P F L s u) (m:Has P F L q x):X (Base.of w1) n (bodyPost P fn (Gets w1 (.tuple #[v,u,x]))) F L .ret:=λa w ha hw=>by
 refine bodyPost_ret (v:=.tuple #[v,u,x]) ?_ ha.1 ⟨rfl,hw.below⟩
 rcases Res.run h ha hw with ⟨t,rfl,e1⟩ | ⟨t,ty,ad,rfl,e1,e2⟩ <;> rcases Res.run k ha hw with ⟨t',rfl,f1⟩ | ⟨t',ty',ad',rfl,f1,f2⟩ <;> rcases Res.run m ha hw with ⟨t'',rfl,g1⟩ | ⟨t'',ty'',ad'',rfl,g1,g2⟩ <;> simp [results,Result.andThen, *]
end
end Sy
end
section
namespace Sy
open Go.RowKit
theorem St.setNew {w0:Base} {w w':World} {L:Blocks} (h:St w0 w L) (hg:Gr w w') {i g:Nat} {t:TypeId} {cs:Array Value} (hi:i<L.length) (hn:w.heap.size≤g) (hb:Blk w' g t cs):St w0 w' (L.set i (g,t,cs)):=by
 have h':=h.gr hg
 refine ⟨h'.below,λg1 t1 c1 hm=>?_,?_,h'.size,h'.non⟩
 ·rcases List.mem_or_eq_of_mem_set hm with hm | e
  ·exact ⟨(h.blk g1 t1 c1 hm).1,hg.blk (h.blk g1 t1 c1 hm).2⟩
  ·obtain ⟨rfl,rfl,rfl⟩:g1=g∧t1=t∧c1=cs:=by simpa using e
   exact ⟨Nat.le_trans h.below.size hn,hb⟩
 ·rw [List.map_set]
  have hlt:∀ x∈L.map (·.1),x<g:=λx hx=>by
   obtain ⟨⟨g1,t1,c1⟩,hm,rfl⟩:=List.mem_map.1 hx
   exact Nat.lt_of_lt_of_le (h.blk g1 t1 c1 hm).2.lt hn
  have hp:=h.apart
  generalize L.map (·.1)=l at hlt hp
  clear h hb hi
  induction l generalizing i with
  | nil=>exact List.Pairwise.nil
  | cons x l ih =>
   obtain ⟨h1,h2⟩:=List.nodup_cons.1 hp
   cases i with
   | zero =>
    refine List.nodup_cons.2 ⟨λhm=>?_,h2⟩
    have:=hlt g (List.mem_cons_of_mem _ hm)
    omega
   | succ i =>
    refine List.nodup_cons.2 ⟨λhm=>?_,ih (λy hy=>hlt y (List.mem_cons_of_mem _ hy)) h2⟩
    rcases List.mem_or_eq_of_mem_set hm with hm | e
    ·exact h1 hm
    ·have:=hlt x (List.mem_cons_self ..)
     omega
theorem addr_off (b f q:Nat):(⟨b,f,none⟩:Addr).add q=⟨b,f+q,none⟩:=by unfold Addr.add; split <;> simp_all
section
variable {P:Program} {w0:Base} {n:Nat} {Q:Exit→Act→World→Prop} {F:Slots} {L:Blocks} {ops:Array Oper} {o:Oper} {l:List Oper}
theorem Quiet.callS {v:Value} (f:FuncId) (args:Array Value) (he:∀ w,(execOp (evF F) o).run P w=.ok (.enter f args) w)
  (h:∀ w,St w0 w L→Calls P f args w (Gets w v)):Quiet P w0 F L o v:=λw hw=>by
 unfold Gives; rw [he w]; exact h w hw
theorem Writes.one (f:Nat) {g:Nat} {t:TypeId} {cs cs':Array Value} (ty:TypeId) (v:Value) (x y:Operand) (ho:o.op=.store ty x y) (hx:evF F x=.pointer (some ⟨g,f,none⟩)) (hy:evF F y=v)
  (hi:(P.info? ty).map (·.size)=some 1) (hv:v.cells=#[v]) (h1:v.oneCell'=true) (hk:f<cs.size) (hcs:cs.setIfInBounds f v=cs'):Writes P F o g t cs cs' :=
 λw hb=>⟨w.setCell ⟨g,f,none⟩ v,by
  have hth:=hb.there f 1 hk
  have hst:=run_storeCells_cells (P:=P) g f [v] 0 w (λj hj=>by simpa using (hth j hj).1) (λj hj=>by simpa using (hth j hj).2) (λu hu=>by rw [List.mem_singleton.1 hu]; exact h1)
  unfold execOp
  cases hq:P.info? ty with
  | none=>simp [hq] at hi
  | some i =>
   have hs:i.size=1:=by simpa [hq] using hi
   simp only [World.setCells,Nat.add_zero] at hst
   simp [ho,hx,hy,Instr.storeAt,Instr.sureAddr,storeVar,sizeOf,typeInfo,hq,hs,hv,hst,Result.andThen],
  only_setCell (World.grownBy.refl w (some g)) (.inl rfl) v,hcs ▸ hb.set_ f v⟩
theorem loopI {c:Code} (N:Nat) (I:Nat→Act→World→Prop) (h0:∀ a w,Fr w0.ds a n F→St w0 w L→I 0 a w)
  (hr:∀ i,i≤N→∀ a w,I i a w→c.wpIn w0.fence w0.room P (Exit.then (λa w=>i<N∧I (i+1) a w) Q) a w):wpC P w0 n Q F L (.loop c):=λa w ha hw=>by
 refine wpIn_loop_rounds (N+1) ?_
 have key:∀ k i,i+k=N→∀ a w,I i a w→Code.roundsIn w0.fence w0.room P c Q (k+1) a w:=by
  intro k
  induction k with
  | zero =>
   intro i hi a w h
   refine wpIn_mono (hr i (by omega) a w h) λe a w hq=>?_
   cases e <;> first | exact hq | exact absurd hq.1 (by omega)
  | succ k ih =>
   intro i hi a w h
   refine wpIn_mono (hr i (by omega) a w h) λe a w hq=>?_
   cases e <;> first | exact hq | exact ih (i+1) (by omega) a w hq.2
 exact key N 0 (by omega) a w (h0 a w ha hw)
theorem lookup_all:∀ (G:Slots),(∀ p∈G,F.lookup p.1=some p.2)→∀ i v,G.lookup i=some v→F.lookup i=some v
 | [],_,_,_,h=>by cases h
 | (q,u)::G,hG,i,v,h=>by
  simp only [List.lookup_cons] at h
  by_cases e:i=q
  ·subst e
   simp at h
   subst h
   exact hG (i,u) (List.mem_cons_self ..)
  ·have e':(i == q)=false:=by simpa using e
   rw [e'] at h
   exact lookup_all G (λp hp=>hG p (List.mem_cons_of_mem _ hp)) i v h
theorem Fr.all {ds:List Deferred} {a:Act} (h:Fr ds a n F) {G:Slots} (hG:∀ p∈G,F.lookup p.1=some p.2):Fr ds a n G:=h.less (lookup_all G hG)
theorem all_nil:∀ p∈([]:Slots),F.lookup p.1=some p.2:=λ_ h=>by cases h
theorem all_cons {G:Slots} {i:Nat} {v:Value} (h:F.lookup i=some v) (hG:∀ p∈G,F.lookup p.1=some p.2):∀ p∈(i,v)::G,F.lookup p.1=some p.2:=λp hp=>by
 rcases List.mem_cons.1 hp with rfl | hp
 ·exact h
 ·exact hG p hp
def sel:Blocks→List Bool→Blocks
 | x::l,true::m=>x::sel l m
 | _::l,false::m=>sel l m
 | _,_=>[]
theorem sel_sub:∀ (l:Blocks) (m:List Bool),(sel l m).Sublist l
 | [],[]=>List.Sublist.slnil
 | [],_::_=>by simp [sel]
 | _::_,[]=>by simp [sel]
 | _::l,true::m=>(sel_sub l m).cons_cons _
 | _::l,false::m=>(sel_sub l m).cons _
theorem Quiet.there (g f k:Nat) (ty:TypeId) (cs:List Value) (d:TypeDesc) (x:Operand) (ho:o.op=.load ty x) (hx:evF F x=.pointer (some ⟨g,f,none⟩)) (hg:g<w0.world.heap.size) (hr:w0.world.rangeAt g f cs)
  (hu:P.underlying ty=some d) (hd:d.isRow=true) (hi:(P.info? ty).map (·.size)=some k) (hk:cs.length=k) (v:Value) (hv:Value.agg cs.toArray=v):Quiet P w0 F L o v:=λw hw=>by
 have hl:=run_loadVar_mid (P:=P) w g f ty cs d (λj u hj=>(Below.cell (p:=⟨g,f+j,none⟩) hw.below hg).trans (hr j u hj)) hu hd (by rw [hi,hk])
 unfold Gives execOp
 simp only [ho,hx,Instr.loadAt,Instr.sureAddr,Sem.run_bind,Sem.run_pure,Result.andThen_ok,hl]
 exact ⟨hv,Gr.refl _⟩
theorem Quiet.thereOne (g f:Nat) (ty:TypeId) (d:TypeDesc) (x:Operand) (ho:o.op=.load ty x) (hx:evF F x=.pointer (some ⟨g,f,none⟩)) (hg:g<w0.world.heap.size) (v:Value) (hr:w0.world.cell? ⟨g,f,none⟩=some v)
  (hu:P.underlying ty=some d) (hd:d.isRow=false):Quiet P w0 F L o v:=λw hw=>by
 have hc:w.cell? ⟨g,f,none⟩=some v:=(Below.cell (p:=⟨g,f,none⟩) hw.below hg).trans hr
 have ha:(isAgg ty).run P w=.ok false w:=by
  cases d <;> first | (cases hd; done) | simp [isAgg,underlying,hu]
 unfold Gives execOp
 simp only [ho,hx,Instr.loadAt,Instr.sureAddr,Sem.run_bind,Sem.run_pure,Result.andThen_ok,loadVar,ha,Bool.false_eq_true,if_false,run_load,hc]
 exact ⟨trivial,Gr.refl _⟩
end
end Sy
end
section
namespace Sy
open Go.RowKit
section
variable {P:Program} {w0:Base} {n:Nat} {Q:Exit→Act→World→Prop} {F:Slots} {L:Blocks} {ops:Array Oper} {o:Oper} {l:List Oper} {ex:Nat→Bool} {fuel:Nat} {listed:Array Bool}
def WritesV (P:Program) (w0:Base) (F:Slots) (L:Blocks) (o:Oper) (g:Nat) (t:TypeId) (cs':Array Value) (v:Value):Prop :=
 ∀ w,St w0 w L→∃ w',(execOp (evF F) o).run P w=.ok (.value v) w'∧w.grownBy w' (some g)∧Blk w' g t cs'
theorem writeVD (k:Nat) {oi:Oper} (hi0:ops.toList[k]? = some oi) (hr:Region.ready .any ops listed=[k]) (hex:ex k=true) (hg:good ops n F oi=true) (i g:Nat) (t:TypeId) (cs cs':Array Value) (v:Value) (hL:L[i]? = some (g,t,cs)) (hm:WritesV P w0 F L oi g t cs' v)
  (h:wpD P w0 n ops Q ex (putF F oi.dst v) (L.set i (g,t,cs')) fuel (listed.setIfInBounds k true)):wpD P w0 n ops Q ex F L (fuel+1) listed:=λa w ha hw =>
 wpAnyG_sole k hi0 hr (ha.wanted (good_spec hg).1) λw1 h1 K hK=>by
  obtain ⟨w',e1,e2,e3⟩:=hm w1 (hw.gr h1)
  unfold Oper.wp
  rw [good_exec hg ha,e1]
  exact hK _ _ (λe=>by rw [hex] at e; cases e) (h _ _ (ha.put (good_spec hg).2.2.1 _) ((hw.gr h1).set hL e2 e3))
theorem WritesV.copy (d s:Operand) (dT sT e:TypeId) (ho:o.op=.call { callee:=.builtin .copy,args:=#[d,s],argTypes:=#[dT,sT] }) (hu:P.underlying dT=some (.slice e)) (hsz:(P.info? e).map (·.size)=some 1)
  (i g f dl dc:Nat) (t:TypeId) (cs cs':Array Value) (hL:L[i]? = some (g,t,cs)) (hd:evF F d=.slice (some ⟨g,f,none⟩) dl dc)
  (j gx fx sl sc:Nat) (tx:TypeId) (cx:Array Value) (hLx:L[j]? = some (gx,tx,cx)) (hs:evF F s=.slice (some ⟨gx,fx,none⟩) sl sc)
  (news:List Value) (hnews:(cx.toList.drop fx).take (Nat.min sl dl)=news) (hn:news.length=Nat.min sl dl) (h1:∀ u∈news,u.oneCell'=true) (hfit:f+news.length≤cs.size) (hcs:setAll cs f news=cs'):WritesV P w0 F L o g t cs' (goInt news.length):=λw hw=>by
 have hb:=hw.get hL
 have hbx:=hw.get hLx
 have hth:=hb.there f news.length hfit
 have hr:=run_copy_cells (P:=P) w dT sT o.type e g f dl dc ⟨gx,fx,none⟩ sl sc news hu hsz hn (λq u hq=>by
  rw [addr_off,hbx.cell]
  rw [← hnews] at hq
  have hlt:q<Nat.min sl dl:=by
   have h:=(List.getElem?_eq_some_iff.1 hq).1
   rw [List.length_take] at h
   exact Nat.lt_of_lt_of_le h (Nat.min_le_left _ _)
  rw [List.getElem?_take_of_lt hlt,List.getElem?_drop] at hq
  simpa using hq) (λq hq=>(hth q hq).1) (λq hq=>(hth q hq).2) h1
 refine ⟨_,?_,only_setCells news f w (World.grownBy.refl w (some g)),hcs ▸ Blk.setCells news f w cs hb⟩
 unfold execOp
 simp only [ho,resolve,invoke,builtin,Sem.run_bind,Sem.run_pure,Result.andThen_ok,List.map_toArray,List.map_cons,List.map_nil,hs,hd,hr]
theorem array_at (w:World) (t e:TypeId) (A:Option Addr) (m len cap:Nat) (ht:P.underlying t=some (.array m e)) (hk:m≤len):(Instr.arrayAt t (.slice A len cap)).run P w=.ok (.pointer A) w:=by
 have h1:¬ len<m:=by omega
 simp [Instr.arrayAt,run_underlying ht,h1,Result.andThen]
theorem exec_array (t e:TypeId) (x:Operand) (A:Option Addr) (m len cap:Nat) (ho:o.op=.sliceToArrayPointer t x) (hx:evF F x=.slice A len cap) (ht:P.underlying t=some (.array m e)) (hk:m≤len) (w:World) :
  (execOp (evF F) o).run P w=.ok (.value (.pointer A)) w:=by
 unfold execOp
 simp only [ho,hx,array_at w t e A m len cap ht hk,Sem.run_bind,Sem.run_pure,Result.andThen_ok]
theorem all_one (l:List Value) (h:l.all (·.oneCell')=true):∀ u∈l,u.oneCell'=true:=λu hu=>List.all_eq_true.1 h u hu
end
end Sy
end
section
namespace Sy
open Go.RowKit
theorem setAll_is:∀ (vs:List Value) (o:Nat) (cs:Array Value),o+vs.length≤cs.size→setAll cs o vs=(cs.toList.take o++(vs++cs.toList.drop (o+vs.length))).toArray
 | [],o,cs,_=>by simp [setAll,List.take_append_drop]
 | v::r,o,cs,h=>by
  simp only [List.length_cons] at h
  rw [setAll,setAll_is r (o+1) _ (by simp; omega)]
  congr 1
  have hlt:o<cs.toList.length:=by simp; omega
  rw [Array.toList_setIfInBounds,List.take_set,List.take_add_one,List.drop_set_of_lt (by omega),List.getElem?_eq_getElem hlt,List.set_append_right _ _ (by simp; omega)]
  have e:o+1+r.length=o+(r.length+1):=by omega
  simp [Nat.min_eq_left (Nat.le_of_lt (show o<cs.size by omega)),e]
def flat (f:Nat→List Value) (n:Nat):List Value:=(List.range n).flatMap f
section
variable {s:Nat} {f:Nat→List Value}
theorem flat_succ (n:Nat):flat f (n+1)=flat f n++f n:=by simp [flat,List.range_succ]
theorem flat_len (h:∀ k,(f k).length=s):∀ n,(flat f n).length=n*s
 | 0=>by simp [flat]
 | n+1=>by rw [flat_succ,List.length_append,flat_len h n,h,Nat.succ_mul]
theorem flat_add (k:Nat):∀ m,flat f (k+m)=flat f k++flat (λj=>f (k+j)) m
 | 0=>by simp [flat]
 | m+1=>by rw [← Nat.add_assoc,flat_succ,flat_add k m,flat_succ,List.append_assoc]
theorem flat_split {n k:Nat} (hk:k<n):flat f n=flat f k++(f k++flat (λj=>f (k+1+j)) (n - k - 1)):=by
 obtain ⟨m,rfl⟩:∃ m,n=k+1+m:=⟨n - k - 1,by omega⟩
 rw [flat_add,flat_succ,List.append_assoc,show k+1+m - k - 1=m by omega]
theorem flat_congr {g:Nat→List Value} {n:Nat} (h:∀ k,k<n→f k=g k):flat f n=flat g n:=by
 unfold flat
 rw [List.flatMap_def,List.flatMap_def]
 exact congrArg List.flatten (List.map_congr_left λk hk=>h k (List.mem_range.1 hk))
theorem flat_at (h:∀ k,(f k).length=s) {n k o:Nat} (hk:k<n) (ho:o=k*s):((flat f n).drop o).take s=f k:=by
 subst ho
 rw [flat_split hk,List.drop_append_of_le_length (by rw [flat_len h]; exact Nat.le_refl _),List.drop_eq_nil_of_le (by rw [flat_len h]; exact Nat.le_refl _),List.nil_append,List.take_append_of_le_length (by rw [h]; exact Nat.le_refl _),List.take_of_length_le (by rw [h]; exact Nat.le_refl _)]
theorem flat_in (h:∀ k,(f k).length=s) {n k o e m:Nat} (hk:k<n) (ho:o=k*s+e) (hm:e+m≤s):((flat f n).drop o).take m=((f k).drop e).take m:=by
 subst ho
 rw [← flat_at h hk rfl,List.drop_take,List.drop_drop,List.take_take,Nat.min_eq_left (by omega)]
theorem flat_set (h:∀ k,(f k).length=s) {v:List Value} (hv:v.length=s) {n k o:Nat} (hk:k<n) (ho:o=k*s):setAll (flat f n).toArray o v=(flat (λj=>if j=k then v else f j) n).toArray:=by
 subst ho
 have hl:=flat_len h (f:=f)
 have hks:k*s+s≤n*s:=by rw [← Nat.succ_mul]; exact Nat.mul_le_mul_right s hk
 rw [setAll_is _ _ _ (by simp [hl,hv]; exact hks)]
 congr 1
 rw [flat_split hk,flat_split (f:=λj=>if j=k then v else f j) hk]
 congr 1
 ·show (flat f k++_).take (k*s)=_
  rw [List.take_append_of_le_length (by rw [hl]; exact Nat.le_refl _),List.take_of_length_le (by rw [hl]; exact Nat.le_refl _)]
  exact flat_congr λj hj=>by rw [if_neg (by omega)]
 ·simp only [if_true]
  congr 1
  show (flat f k++(f k++_)).drop (k*s+v.length)=_
  rw [← List.append_assoc,List.drop_append_of_le_length (by rw [List.length_append,hl,h,hv]; exact Nat.le_refl _),List.drop_eq_nil_of_le (by rw [List.length_append,hl,h,hv]; exact Nat.le_refl _),List.nil_append]
  exact flat_congr λj hj=>by rw [if_neg (by omega)]
theorem flat_one (h:∀ k,(f k).length=s) (n:Nat) (hf:∀ k, ∀ u∈f k,u.oneCell'=true):(flat f n).toArray.all (·.oneCell')=true:=by
 rw [List.all_toArray,List.all_eq_true]
 intro u hu
 unfold flat at hu
 obtain ⟨k,_,hk⟩:=List.mem_flatMap.1 hu
 exact hf k u hk
theorem flat_const (c:List Value) (hc:c.length=s) (hs:0<s) (n:Nat) (z:Array Value) (hz:z.toList=c):(flat (λ_=>c) n).toArray=madeCells z (n*s):=by
 have hzs:z.size=s:=by rw [← Array.length_toList,hz,hc]
 apply Array.ext'
 unfold madeCells
 apply List.ext_getElem?
 intro i
 rw [Array.toList_map,Array.toList_range,List.getElem?_map]
 by_cases hi:i<n*s
 ·have hk:i / s<n:=Nat.div_lt_of_lt_mul (by rw [Nat.mul_comm]; exact hi)
  have h:=flat_in (s:=s) (f:=λ_=>c) (λ_=>hc) (n:=n) (k:=i / s) (o:=i) (e:=i%s) (m:=1) hk (by rw [Nat.mul_comm]; exact (Nat.div_add_mod i s).symm) (Nat.mod_lt _ hs)
  have h2:=congrArg (·[0]?) h
  simp only [List.getElem?_take,List.getElem?_drop,Nat.zero_lt_one,if_true,Nat.add_zero] at h2
  rw [h2,List.getElem?_range hi]
  have hm:i%s<s:=Nat.mod_lt _ hs
  simp only [Option.map_some,hzs]
  rw [← hz]
  simp [hzs,hm]
 ·rw [List.getElem?_eq_none (by rw [flat_len (s:=s) (λ_=>hc)]; omega),List.getElem?_eq_none (by simp; omega)]
  rfl
end
def upto (k:Nat) (A:Nat→List Value) (z:List Value) (j:Nat):List Value:=if j<k then A j else z
section
variable {s n k:Nat} {A:Nat→List Value} {z:List Value}
theorem upto_len (hA:∀ j,(A j).length=s) (hz:z.length=s) (k:Nat):∀ j,(upto k A z j).length=s:=λj=>by
 unfold upto
 split
 ·exact hA j
 ·exact hz
theorem upto_lt {j:Nat} (h:j<k):upto k A z j=A j:=if_pos h
theorem upto_one (hA:∀ j, ∀ u∈A j,u.oneCell'=true) (hz:∀ u∈z,u.oneCell'=true) (k:Nat):∀ j, ∀ u∈upto k A z j,u.oneCell'=true:=λj u hu=>by
 unfold upto at hu
 split at hu
 ·exact hA j u hu
 ·exact hz u hu
theorem upto_zero:(flat (λ_=>z) n).toArray=(flat (upto 0 A z) n).toArray:=congrArg List.toArray (flat_congr λj _=>by unfold upto; rw [if_neg (by omega)])
theorem upto_all:(flat (upto n A z) n).toArray=(flat A n).toArray:=congrArg List.toArray (flat_congr λj hj=>upto_lt hj)
theorem upto_set (hA:∀ j,(A j).length=s) (hz:z.length=s) {v:List Value} (hv:A k=v) (hk:k<n) {o:Nat} (ho:o=k*s):setAll (flat (upto k A z) n).toArray o v=(flat (upto (k+1) A z) n).toArray:=by
 rw [flat_set (upto_len hA hz k) (by rw [← hv]; exact hA k) hk ho]
 refine congrArg List.toArray (flat_congr λj _=>?_)
 unfold upto
 by_cases e:j=k
 ·subst e
  rw [if_pos rfl,if_pos (by omega),hv]
 ·rw [if_neg e]
  by_cases h:j<k
  ·rw [if_pos h,if_pos (by omega)]
  ·rw [if_neg h,if_neg (by omega)]
theorem upto_set1 (hA:∀ j,(A j).length=1) {u v:Value} (hv:A k=[v]) (hk:k<n):(flat (upto k A [u]) n).toArray.setIfInBounds k v=(flat (upto (k+1) A [u]) n).toArray:=by
 have h:=upto_set (s:=1) (z:=[u]) hA rfl hv hk (Nat.mul_one k).symm
 simpa only [setAll] using h
theorem flat_load {f:Nat→List Value} (h:∀ j,(f j).length=s) (hk:k<n) {o:Nat} (ho:o=k*s):Value.agg (((flat f n).toArray.toList.drop o).take s).toArray=.agg (f k).toArray:=by
 rw [show (flat f n).toArray.toList=flat f n from rfl,flat_at h hk ho]
theorem flat_fit {f:Nat→List Value} (h:∀ j,(f j).length=s) (hk:k<n) {o:Nat} (ho:o=k*s):o+s≤(flat f n).toArray.size:=by
 have hks:k*s+s≤n*s:=by rw [← Nat.succ_mul]; exact Nat.mul_le_mul_right s hk
 rw [List.size_toArray,flat_len h]
 omega
end
section
variable {s n m:Nat} {f:Nat→List Value}
theorem flat_whole (h:∀ j,(f j).length=s) (hm:n*s=m):Value.agg (((flat f n).toArray.toList.drop 0).take m).toArray=.agg (flat f n).toArray:=by
 rw [show (flat f n).toArray.toList=flat f n from rfl,List.drop_zero,List.take_of_length_le (by rw [flat_len h,hm]; exact Nat.le_refl _)]
theorem flat_wsize (h:∀ j,(f j).length=s) (hm:n*s=m):0+m≤(flat f n).toArray.size:=by
 rw [List.size_toArray,flat_len h]; omega
theorem flat_info (h:∀ j,(f j).length=s) {x:Option Nat} (hx:x=some (n*s)):x=some (flat f n).toArray.size:=by
 rw [hx,List.size_toArray,flat_len h]
theorem flat_over (h:∀ j,(f j).length=s) (hm:n*s=m) {cs:Array Value} (hc:cs.size=m):0+(flat f n).toArray.size≤cs.size:=by
 rw [List.size_toArray,flat_len h]; omega
theorem flat_put (h:∀ j,(f j).length=s) {cs:Array Value} (hc:cs.size=n*s):setAll cs 0 (flat f n).toArray.toList=(flat f n).toArray:=by
 have hl:(flat f n).toArray.toList.length=cs.size:=by
  rw [hc]
  exact flat_len h n
 rw [setAll_is _ _ _ (by omega),List.take_zero,List.drop_eq_nil_of_le (by rw [Array.length_toList]; omega)]
 simp
theorem flat_lt1 (h:∀ j,(f j).length=1) {k o:Nat} (hk:k<n) (ho:o=k*1):o<(flat f n).toArray.size:=by
 rw [List.size_toArray,flat_len h]; omega
end
section
variable {P:Program} {w0:Base} {n:Nat} {Q:Exit→Act→World→Prop} {F:Slots} {L:Blocks} {ops:Array Oper} {o:Oper} {l:List Oper}
theorem blk_range {w:World} {g:Nat} {t:TypeId} {cs:Array Value} (h:Blk w g t cs) {o:Nat} {vs:List Value} (e:(cs.toList.drop o).take vs.length=vs):w.rangeAt g o vs:=λj v hj=>by
 rw [h.cell]
 rw [← e] at hj
 have hlt:j<vs.length:=by
  have h:=(List.getElem?_eq_some_iff.1 hj).1
  rw [List.length_take] at h
  exact Nat.lt_of_lt_of_le h (Nat.min_le_left _ _)
 rw [List.getElem?_take_of_lt hlt,List.getElem?_drop] at hj
 simpa using hj
theorem range_left {w:World} {g o:Nat} {a b:List Value} (h:w.rangeAt g o (a++b)):w.rangeAt g o a:=λj v hj=>h j v (by rw [List.getElem?_append_left (List.getElem?_eq_some_iff.1 hj).1]; exact hj)
theorem range_right {w:World} {g o n:Nat} {a b:List Value} (h:w.rangeAt g o (a++b)) (hn:a.length=n):w.rangeAt g (o+n) b:=λj v hj=>by
 rw [Nat.add_assoc]
 refine h (n+j) v ?_
 rw [List.getElem?_append_right (by omega),show n+j - a.length=j by omega]
 exact hj
theorem range_flat {w:World} {g o n s k:Nat} {f:Nat→List Value} (h:w.rangeAt g o (flat f n)) (hs:∀ j,(f j).length=s) (hk:k<n):w.rangeAt g (o+k*s) (f k):=λj v hj=>by
 rw [Nat.add_assoc]
 refine h (k*s+j) v ?_
 have e:=flat_at hs hk rfl
 rw [← e] at hj
 have hlt:j<s:=by
  have h:=(List.getElem?_eq_some_iff.1 hj).1
  rw [List.length_take] at h
  exact Nat.lt_of_lt_of_le h (Nat.min_le_left _ _)
 rw [List.getElem?_take_of_lt hlt,List.getElem?_drop] at hj
 exact hj
theorem exec_int (op:BinOp) (t:TypeId) (x y:Operand) {yt:TypeId} (k:IntKind) {k':IntKind} (a b:Int) (v:Value) (ho:o.op=.binOp op t x y yt) (hx:evF F x=.int k a) (hy:evF F y=.int k' b) (h:∀ w,(binOp op t (.int k a) (.int k' b)).run P w=.ok v w) (w:World) :
  (execOp (evF F) o).run P w=.ok (.value v) w:=by
 have h1:(eqGuard op t x y (.int k a) (.int k' b)).run P w=.ok () w:=by
  unfold eqGuard
  cases op <;> rfl
 unfold execOp
 simp only [ho,hx,hy,Sem.run_bind,h1,h w,Result.andThen_ok,Sem.run_pure]
theorem wrap_i64 {z:Int} (h0 : -9223372036854775808≤z) (h1:z<9223372036854775808):IntKind.i64.wrap z=z:=by
 unfold IntKind.wrap; simp [IntKind.bits,IntKind.signed]; omega
theorem wrap_u64 {z:Int} (h0:0≤z) (h1:z<18446744073709551616):IntKind.u64.wrap z=z:=by
 unfold IntKind.wrap; simp [IntKind.bits,IntKind.signed]; omega
theorem wrap_u8 {z:Int} (h0:0≤z) (h1:z<256):IntKind.u8.wrap z=z:=by
 unfold IntKind.wrap; simp [IntKind.bits,IntKind.signed]; omega
theorem int_add (t:TypeId) (k:IntKind) (a b c:Int) (h:k.wrap (a+b)=c) (w:World):(binOp .add t (.int k a) (.int k b)).run P w=.ok (.int k c) w:=by simp [binOp,Op.intArith,h]
theorem int_sub (t:TypeId) (k:IntKind) (a b c:Int) (h:k.wrap (a - b)=c) (w:World):(binOp .sub t (.int k a) (.int k b)).run P w=.ok (.int k c) w:=by simp [binOp,Op.intArith,h]
theorem int_mul (t:TypeId) (k:IntKind) (a b c:Int) (h:k.wrap (a*b)=c) (w:World):(binOp .mul t (.int k a) (.int k b)).run P w=.ok (.int k c) w:=by simp [binOp,Op.intArith,h]
theorem int_and (t:TypeId) (k:IntKind) (a b c:Int) (h:k.wrap ((BitVec.ofInt k.bits a &&& BitVec.ofInt k.bits b).toNat:Int)=c) (w:World):(binOp .and t (.int k a) (.int k b)).run P w=.ok (.int k c) w:=by
 simp only [binOp,ne_eq,not_true_eq_false,if_false,Op.intBits,Sem.run_pure]
 rw [h]
theorem int_xor (t:TypeId) (k:IntKind) (a b c:Int) (h:k.wrap ((BitVec.ofInt k.bits a ^^^ BitVec.ofInt k.bits b).toNat:Int)=c) (w:World):(binOp .xor t (.int k a) (.int k b)).run P w=.ok (.int k c) w:=by
 simp only [binOp,ne_eq,not_true_eq_false,if_false,Op.intBits,Sem.run_pure]
 rw [h]
theorem int_shr (t:TypeId) (k k':IntKind) (a b c:Int) (hb:¬ b<0) (h:a.fdiv (2 ^ min b.toNat k.bits)=c) (w:World):(binOp .shr t (.int k a) (.int k' b)).run P w=.ok (.int k c) w:=by
 simp only [binOp,Op.shift,if_neg hb,Sem.run_pure,h]
theorem int_lss (t:TypeId) (k:IntKind) (a b:Int) (c:Bool) (h:decide (a<b)=c) (w:World):(binOp .lss t (.int k a) (.int k b)).run P w=.ok (.bool c) w:=by simp [binOp,Op.intCmp, ← h]
theorem int_leq (t:TypeId) (k:IntKind) (a b:Int) (c:Bool) (h:decide (a≤b)=c) (w:World):(binOp .leq t (.int k a) (.int k b)).run P w=.ok (.bool c) w:=by simp [binOp,Op.intCmp, ← h]
theorem int_gtr (t:TypeId) (k:IntKind) (a b:Int) (c:Bool) (h:decide (a>b)=c) (w:World):(binOp .gtr t (.int k a) (.int k b)).run P w=.ok (.bool c) w:=by simp [binOp,Op.intCmp, ← h]
theorem int_geq (t:TypeId) (k:IntKind) (a b:Int) (c:Bool) (h:decide (a ≥ b)=c) (w:World):(binOp .geq t (.int k a) (.int k b)).run P w=.ok (.bool c) w:=by simp [binOp,Op.intCmp, ← h]
theorem int_eql (t:TypeId) (k:IntKind) (a b:Int) (c:Bool) (h:decide (a=b)=c) (w:World):(binOp .eql t (.int k a) (.int k b)).run P w=.ok (.bool c) w:=by
 simp only [binOp,ne_eq,not_true_eq_false,if_false,Op.intCmp,Sem.run_pure, ← h]
 rfl
theorem int_neq (t:TypeId) (k:IntKind) (a b:Int) (c:Bool) (h:decide (a≠b)=c) (w:World):(binOp .neq t (.int k a) (.int k b)).run P w=.ok (.bool c) w:=by
 simp only [binOp,ne_eq,not_true_eq_false,if_false,Op.intCmp,Sem.run_pure, ← h]
 by_cases e:a=b <;> simp [e]
theorem exec_at (t e:TypeId) (x kx:Operand) (g f len cap k s:Nat) (ki:IntKind) (ho:o.op=.indexAddr t x kx) (hx:evF F x=.slice (some ⟨g,f,none⟩) len cap) (hkx:evF F kx=.int ki (k:Int)) (ht:P.underlying t=some (.slice e)) (hsz:∀ w,(sizeOf e).run P w=.ok s w) (hk:k<len) (w:World) :
  (execOp (evF F) o).run P w=.ok (.value (.pointer (some ⟨g,f+k*s,none⟩))) w:=by
 have h0:(0:Int)≤k:=by omega
 have h1:((k:Int).toNat)=k:=by omega
 unfold execOp
 simp [ho,hx,hkx,Instr.indexAt,asIntOf,run_underlying ht,hsz,h0,hk,addr_off,Result.andThen]
theorem exec_atA (t e:TypeId) (x kx:Operand) (g f m k s:Nat) (ki:IntKind) (ho:o.op=.indexAddr t x kx) (hx:evF F x=.pointer (some ⟨g,f,none⟩)) (hkx:evF F kx=.int ki (k:Int)) (ht:P.underlying t=some (.array m e)) (hsz:∀ w,(sizeOf e).run P w=.ok s w) (hk:k<m) (w:World) :
  (execOp (evF F) o).run P w=.ok (.value (.pointer (some ⟨g,f+k*s,none⟩))) w:=by
 have h0:(0:Int)≤k:=by omega
 unfold execOp
 simp [ho,hx,hkx,Instr.indexAt,asIntOf,run_underlying ht,hsz,h0,hk,addr_off,Result.andThen,Instr.sureAddr]
theorem exec_sl1 (t:TypeId) (x lx:Operand) (g f len cap lo s:Nat) (kl:IntKind) (ho:o.op=.slice t x (some lx) none none) (hx:evF F x=.slice (some ⟨g,f,none⟩) len cap) (hl:evF F lx=.int kl (lo:Int)) (ht:P.underlying t=some (.slice (P.elem t))) (hsz:∀ w,(sizeOf (P.elem t)).run P w=.ok s w) (h1:lo≤len) (h2:lo<cap) (w:World) :
  (execOp (evF F) o).run P w=.ok (.value (.slice (some ⟨g,f+lo*s,none⟩) (len - lo) (cap - lo))) w:=by
 have hne:¬ cap=lo:=by omega
 have e:(Instr.sliceAt t (.slice (some ⟨g,f,none⟩) len cap) (some (.int kl (lo:Int))) none none).run P w=.ok (.slice (some ⟨g,f+lo*s,none⟩) (len - lo) (cap - lo)) w:=by
  rw [run_sliceAt_slice w t _ _ _ _ ht,run_slice_l w t (some ⟨g,f,none⟩) len cap ht kl lo (by omega) (by omega)]
  simp [hsz,sliced,hne,addr_off,Result.andThen]
 unfold execOp
 simp only [ho,hx,hl,Option.map_some,Option.map_none,e,Sem.run_bind,Sem.run_pure,Result.andThen_ok]
theorem exec_sl3 (t:TypeId) (x lx hx' mx':Operand) (g f len cap lo hi mx s:Nat) (kl kh km:IntKind) (ho:o.op=.slice t x (some lx) (some hx') (some mx')) (hx:evF F x=.slice (some ⟨g,f,none⟩) len cap) (hl:evF F lx=.int kl (lo:Int)) (hh:evF F hx'=.int kh (hi:Int)) (hm:evF F mx'=.int km (mx:Int)) (ht:P.underlying t=some (.slice (P.elem t))) (hsz:∀ w,(sizeOf (P.elem t)).run P w=.ok s w)
  (h1:lo≤hi) (h2:hi≤mx) (h3:mx≤cap) (h4:lo<mx) (w:World):(execOp (evF F) o).run P w=.ok (.value (.slice (some ⟨g,f+lo*s,none⟩) (hi - lo) (mx - lo))) w:=by
 have hne:¬ mx=lo:=by omega
 have e:(Instr.sliceAt t (.slice (some ⟨g,f,none⟩) len cap) (some (.int kl (lo:Int))) (some (.int kh (hi:Int))) (some (.int km (mx:Int)))).run P w=.ok (.slice (some ⟨g,f+lo*s,none⟩) (hi - lo) (mx - lo)) w:=by
  rw [run_sliceAt_slice w t _ _ _ _ ht,run_slice_lhm w t (some ⟨g,f,none⟩) len cap ht kl kh km lo hi mx (by omega) (by omega) (by omega) (by omega)]
  simp [hsz,sliced,hne,addr_off,Result.andThen]
 unfold execOp
 simp only [ho,hx,hl,hh,hm,Option.map_some,e,Sem.run_bind,Sem.run_pure,Result.andThen_ok]
theorem exec_min (x y:Operand) {ts:Array TypeId} (k:IntKind) (a b c:Nat) (ho:o.op=.call { callee:=.builtin .min,args:=#[x,y],argTypes:=ts }) (hx:evF F x=.int k (a:Int)) (hy:evF F y=.int k (b:Int)) (h:min a b=c) (w:World):(execOp (evF F) o).run P w=.ok (.value (.int k (c:Int))) w:=by
 have e:(if (b:Int)<(a:Int) then (b:Int) else (a:Int))=(c:Int):=by split <;> omega
 unfold execOp
 simp [ho,hx,hy,resolve,invoke,builtin,Builtin.min_,Builtin.min2,Sem.run_bind,Result.andThen]
 omega
theorem exec_idx (t e:TypeId) (x kx:Operand) (cs:Array Value) (m k:Nat) (ki:IntKind) (d:TypeDesc) (c:Value) (ho:o.op=.index t x kx) (hx:evF F x=.agg cs) (hkx:evF F kx=.int ki (k:Int)) (ht:P.underlying t=some (.array m e)) (he:P.underlying e=some d) (hd:d.isRow=false) (hsz:∀ w,(sizeOf e).run P w=.ok 1 w) (hk:k<m) (hc:cs[k]? = some c) (w:World) :
  (execOp (evF F) o).run P w=.ok (.value c) w:=by
 have h0:(0:Int)≤k:=by omega
 have ha:(isAgg e).run P w=.ok false w:=by
  cases d <;> first | (cases hd; done) | simp [isAgg,underlying,he]
 have pc:(part e cs ((k:Int).toNat*1)).run P w=.ok c w:=by
  simp [part,ha,hc,Result.andThen]
 unfold execOp
 simp only [ho,hx,hkx,Instr.index,asIntOf,Sem.run_bind,Sem.run_pure,Result.andThen_ok,run_underlying ht]
 rw [if_pos ⟨by omega,by omega⟩]
 simp only [Sem.run_bind,hsz,Result.andThen_ok,pc,Sem.run_pure]
def NextX {T:Type} (w0:Base) (n N:Nat) (FF:Nat→T→Slots) (LL:Nat→T→Blocks) (H:Nat→T→Prop) (k:Nat):Act→World→Prop:=λa w=>k<N∧∃ y,H (k+1) y∧Fr w0.ds a n (FF (k+1) y)∧St w0 w (LL (k+1) y)
theorem loopX {T:Type} {c:Code} (N:Nat) (FF:Nat→T→Slots) (LL:Nat→T→Blocks) (H:Nat→T→Prop) (x0:T) (m:List Bool) (h0:H 0 x0) (hF:∀ p∈FF 0 x0,F.lookup p.1=some p.2) (hL:sel L m=LL 0 x0)
  (hr:∀ k x,k≤N→H k x→wpC P w0 n (Exit.then (NextX w0 n N FF LL H k) Q) (FF k x) (LL k x) c):wpC P w0 n Q F L (.loop c) :=
 loopI N (λk a w=>∃ x,H k x∧Fr w0.ds a n (FF k x)∧St w0 w (LL k x)) (λ_ _ ha hw=>⟨x0,h0,ha.all hF,hL ▸ hw.less (sel_sub L m)⟩)
  λk hk a w ⟨x,hx,ha,hw⟩=>hr k x hk hx a w ha hw
theorem againX {T:Type} {N:Nat} {FF:Nat→T→Slots} {LL:Nat→T→Blocks} {H:Nat→T→Prop} {k:Nat} {R:Exit→Act→World→Prop} (y:T) (m:List Bool) (hk:k<N) (hy:H (k+1) y) (hF:∀ p∈FF (k+1) y,F.lookup p.1=some p.2) (hL:sel L m=LL (k+1) y) :
  X w0 n (Exit.then (NextX w0 n N FF LL H k) R) F L .normal:=λ_ _ ha hw=>⟨hk,y,hy,ha.all hF,hL ▸ hw.less (sel_sub L m)⟩
def NextK (w0:Base) (n N:Nat) (FF:Nat→Slots) (LL:Nat→Blocks) (k:Nat):Act→World→Prop:=λa w=>k<N∧Fr w0.ds a n (FF (k+1))∧St w0 w (LL (k+1))
theorem loopK {c:Code} (N:Nat) (FF:Nat→Slots) (LL:Nat→Blocks) (m:List Bool) {M:Blocks} (hF:∀ p∈FF 0,F.lookup p.1=some p.2) (hL:sel L m=M) (hM:M=LL 0)
  (hr:∀ k,k≤N→wpC P w0 n (Exit.then (NextK w0 n N FF LL k) Q) (FF k) (LL k) c):wpC P w0 n Q F L (.loop c) :=
 loopI N (λk a w=>Fr w0.ds a n (FF k)∧St w0 w (LL k)) (λ_ _ ha hw=>⟨ha.all hF,hM ▸ hL ▸ hw.less (sel_sub L m)⟩)
  λk hk a w ⟨ha,hw⟩=>hr k hk a w ha hw
theorem againK {N:Nat} {FF:Nat→Slots} {LL:Nat→Blocks} {k:Nat} {R:Exit→Act→World→Prop} (m:List Bool) {M:Blocks} (hk:k<N) (hF:∀ p∈FF (k+1),F.lookup p.1=some p.2) (hL:sel L m=M) (hM:M=LL (k+1)) :
  X w0 n (Exit.then (NextK w0 n N FF LL k) R) F L .normal:=λ_ _ ha hw=>⟨hk,ha.all hF,hM ▸ hL ▸ hw.less (sel_sub L m)⟩
theorem bcons {x y:Nat×TypeId×Array Value} {l m:Blocks} (h:x=y) (k:l=m):x::l=y::m:=by rw [h,k]
theorem beq {g:Nat} {t:TypeId} {a b:Array Value} (h:a=b):(g,t,a)=(g,t,b):=by rw [h]
theorem Makes.slice (t e:TypeId) (i:TypeInfo) (z:Value) (s b:Nat) (x y:Operand) (kl kc:IntKind) (m:Nat) (c:List Value) (ho:o.op=.makeSlice t x y) (hx:evF F x=.int kl (m:Int)) (hy:evF F y=.int kc (m:Int)) (ht:P.underlying t=some (.slice e)) (hi:P.info? e=some i) (hz:i.zero=some z) (hs:i.size=s) (hs0:0<s) (hb:i.bytes=b)
  (hc:z.cells.toList=c) (hcl:c.length=s) (hbytes:b*m≤281474976710656) (h63:m≤9223372036854775807):Makes P F o e (flat (λ_=>c) m).toArray (λg=>.slice (some ⟨g,0,none⟩) m m):=λw=>by
 subst hs hb
 have hb:(i.bytes:Int)*(m:Int)≤281474976710656:=by
  have h:((i.bytes*m:Nat):Int)≤281474976710656:=by omega
  rwa [Int.natCast_mul] at h
 have hr:=run_make (P:=P) w t e i z ht hi hz kl kc m m (by omega) (Int.le_refl _) hb (by omega)
 simp only [Int.toNat_natCast] at hr
 unfold execOp
 simp only [ho,hx,hy,Sem.run_bind,Sem.run_pure,hr,Result.andThen_ok]
 rw [flat_const c hcl hs0 m z.cells hc]
end
end Sy
end
section
namespace Sy
open Go.RowKit
abbrev mark (D:Nat):Deferred:={ target:=.collected D,args:=#[] }
theorem St.refix {w0:Base} {w:World} {L:Blocks} (h:St w0 w L) (ds:List Deferred) (fe:Fence) (ro:Nat):St ⟨w0.world,w,ds,fe,ro⟩ w L:=⟨h.below,h.blk,h.apart,Nat.le_refl _,λ_ _ _ h _=>h⟩
theorem St.back {w0:Base} {W w:World} {L L':Blocks} (h0:St w0 W L) {ds:List Deferred} {fe:Fence} {ro:Nat} (h:St ⟨w0.world,W,ds,fe,ro⟩ w L') (ds':List Deferred) (fe':Fence) (ro':Nat):St ⟨w0.world,w0.fz,ds',fe',ro'⟩ w L' :=
 ⟨h.below,h.blk,h.apart,Nat.le_trans h0.size h.size,λk o hk ho hc=>h.non k o hk (h0.non k o hk ho hc) hc⟩
theorem St.keeps {w0:Base} {W w:World} {L L':Blocks} (h0:St w0 W L) {ds:List Deferred} {fe:Fence} {ro:Nat} (h:St ⟨w0.world,W,ds,fe,ro⟩ w L') {B:Nat} (hB:w0.world.heap.size≤B):KeepsFrom B W w:=⟨h.size,λk o hk ho hc=>h.non k o (Nat.le_trans hB hk) ho (stays_of hc)⟩
theorem St.between {w0:Base} {W w:World} {L L':Blocks} (h0:St w0 W L) {ds:List Deferred} {fe:Fence} {ro:Nat} (h:St ⟨w0.world,W,ds,fe,ro⟩ w L'):Below w0.world.heap.size W w :=
 ⟨h.below.os.trans h0.below.os.symm,h.below.tape.trans h0.below.tape.symm,h.below.output.trans h0.below.output.symm,h.size,λk hk=>(h.below.block k hk).trans (h0.below.block k hk).symm⟩
theorem St.own {w0:Base} {X Y:World} {L:Blocks} {B:Nat} {row:Option Nat} (h:St w0 X L) (hB:w0.fz.heap.size≤B) (hB2:w0.world.heap.size≤B) (hg:X.grownBy Y row) (hr:∀ r,row=some r→B≤r∧∃ o:Obj,X.heap[r]? = some o∧o.isCells=false):St w0 Y L:=by
 refine ⟨?_,λg t cs hm=>⟨(h.blk g t cs hm).1,(h.blk g t cs hm).2.grown hg (λe=>?_)⟩,h.apart,Nat.le_trans h.size hg.size,λk o hk ho hc=>?_⟩
 ·refine h.below.trans ⟨hg.os,hg.tape,hg.output,hg.size,λk hk=>hg.block k (Nat.lt_of_lt_of_le hk h.below.size) (λe=>?_)⟩
  have:=(hr k e.symm).1
  omega
 ·obtain ⟨o,ho,hc⟩:=(hr g e.symm).2
  have hb:=(h.blk g t cs hm).2
  unfold Blk at hb
  rw [hb] at ho
  cases ho
  cases hc
 ·have h1:=h.non k o hk ho hc
  have hlt:=(Array.getElem?_eq_some_iff.1 ho).1
  exact (hg.block k (Array.getElem?_eq_some_iff.1 h1).1 (λe=>by have:=(hr k e.symm).1; omega)).trans h1
def KpL (n₀:Nat) (l:Blocks) (W W':World):Prop:=Below n₀ W W'∧∀ p∈l,Blk W p.1 p.2.1 p.2.2→Blk W' p.1 p.2.1 p.2.2
theorem KpL.trans {n₀:Nat} {l:Blocks} {A B C:World} (h:KpL n₀ l A B) (k:KpL n₀ l B C):KpL n₀ l A C:=⟨h.1.trans k.1,λp hp hc=>k.2 p hp (h.2 p hp hc)⟩
theorem KpL.put {n₀:Nat} {l:Blocks} {W:World} {k:Nat} {o o':Obj} (hk:n₀≤k) (ho:W.heap[k]? = some o) (hc:o.isCells=false):KpL n₀ l W (W.putObj k o'):=by
 have hg:=grownBy_putObj' W k o'
 refine ⟨⟨hg.os,hg.tape,hg.output,hg.size,λj hj=>World.putObj_heap_other (by omega)⟩,λp _ hp=>?_⟩
 have hne:p.1≠k:=by
  rintro rfl
  unfold Blk at hp
  rw [hp] at ho
  cases ho
  cases hc
 exact (World.putObj_heap_other hne).trans hp
def roundF (F:Slots) (ps:Array Tmp) (vs:Array Value):Slots:=(ps.toList.zip vs.toList).foldl (λF x=>(x.1,x.2)::F) F
theorem Fr.round {ds:List Deferred} {n:Nat}:∀ (l:List (Tmp×Value)) {T:Array Value} {F:Slots},(∀ x∈l,x.1<n)→Fr ds { tmps:=T,defers:=ds } n F→Fr ds { tmps:=l.foldl (λt x=>t.setIfInBounds x.1 x.2) T,defers:=ds } n (l.foldl (λF x=>(x.1,x.2)::F) F)
 | [],_,_,_,h=>h
 | x::l,T,F,hl,h=>by
  have h2:=h.put (d:=some x.1) (decide_eq_true (hl x (List.mem_cons_self ..))) x.2
  exact Fr.round l (λy hy=>hl y (List.mem_cons_of_mem _ hy)) h2
section
variable {P:Program} {w0 fz0:World} {n:Nat} {Q:Exit→Act→World→Prop} {F:Slots} {L:Blocks}
abbrev rb (w0 fz:World) (l:Nat):Base:=⟨w0,fz,[],Fence.wide.inRound l,7⟩
abbrev ab (w0 fz:World) (D:Nat):Base:=⟨w0,fz,[mark D],Fence.wide,9⟩
def BP {α:Type} (w0 fz:World) (l:Nat) (HI:List α→Prop) (LL XR:List α→Blocks) (HX:List α→Prop) (pre:List α):Exit→Act→World→Prop
 | .normal,_,w=>HI pre∧St (rb w0 fz l) w (LL pre)
 | .ret,_,w=>HX pre∧St (rb w0 fz l) w (XR pre)
 | _,_,_=>False
def AP (w0 fz:World) (l n na:Nat) (FA:List Nat→Slots) (LP:Blocks) (LA:List Nat→Blocks):Exit→Act→World→Prop
 | .normal,a,w=>∃ gs,gs.length=na∧Fr [] a n (FA gs)∧St (rb w0 fz l) w (LP++LA gs)
 | _,_,_=>False
theorem rangeF {α:Type} {g:Operand} {ps:Array Tmp} {assign body:Code} (gf:Nat) (lb:Array Value) (hgi:inF F g=true) (hg:evF F g=.func (.func gf) #[] lb) (eg:∀ args w,(callFunc gf args).run P w=.ok (.enter gf args) w)
  (encs:α→Array Value) (kl:Blocks) (S Sp:List α→Prop) (N:Nat) (hps:∀ x,(encs x).size=ps.size) (hpn:∀ p∈ps.toList,p<n)
  (G:List Nat) (HI:List α→Prop) (hI0:HI []) (LL XR:List α→Blocks) (HX:List α→Prop) (m:List Bool) (h0:sel L m=LL []) (hG:∀ pre,(LL pre).map (·.1)=G)
  (hseq:∀ w,St ⟨w0,fz0,[],Fence.wide,9⟩ w L→∃ wk,Below wk.heap.size wk w∧SeqStopsK Fence.wide 8 P gf lb encs (KpL w0.heap.size kl) S Sp N wk)
  (hkl:∀ p∈kl, ∀ pre,p∈LL pre)
  (na:Nat) (FA:α→List Nat→Slots) (LA:α→List Nat→Blocks) (hLA:∀ x gs,gs.length=na→(LA x gs).map (·.1)=gs)
  (hassign:∀ l fz pre x,wpC P (rb w0 fz l) n (AP w0 fz l n na (FA x) (LL pre) (LA x)) (roundF F ps (encs x)) (LL pre) assign)
  (hbody:∀ l fz pre x gs,gs.length=na→pre.length<N→HI pre→wpC P (rb w0 fz l) n (BP w0 fz l HI LL XR HX (pre++[x])) (FA x gs) (LL pre++LA x gs) body)
  (hdone:∀ D fz xs,S xs→HI xs→w0.heap.size≤D→fz.heap[D]? = some (.deferred (some []))→X (ab w0 fz D) n Q F (LL xs) .normal)
  (hstop:∀ D fz pre,Sp pre→HX pre→w0.heap.size≤D→fz.heap[D]? = some (.deferred (some []))→X (ab w0 fz D) n Q F (XR pre) .ret) :
  wpC P ⟨w0,fz0,[],Fence.wide,9⟩ n Q F L (.rangeFunc g ps assign body):=by
 intro a w ha hw
 obtain ⟨wk,hbk,hsq⟩:=hseq w hw
 have hsz:fz0.heap.size≤w.heap.size:=hw.size
 have hsz0:w0.heap.size≤w.heap.size:=hw.below.size
 have hz:St ⟨w0,fz0,[],Fence.wide,9⟩ w (LL []):=h0 ▸ hw.less (sel_sub L m)
 have had:a.defers=[]:=ha.1
 -- what a round hands on pays the iterator
 have hK:∀ {W W':World} {L1:Blocks} {pre pre':List α} {l:Nat},St ⟨w0,fz0,[],Fence.wide,9⟩ W (LL pre)→St (rb w0 W l) W' L1→(LL pre').Sublist L1→KpL w0.heap.size kl W W':=λ{W W' L1 pre pre' l} h1 h2 hs =>
  ⟨h1.between h2,λp hp _=>by
   exact (h2.blk _ _ _ (hs.subset (hkl p hp pre'))).2⟩
 refine wpIn_rangeFunc_ownH (F:=Fence.wide) (n:=9) rfl (by omega) (gf:=gf) (lb:=lb) ((ha.eval hgi).trans hg) trivial eg (encs:=encs) (Kp:=KpL w0.heap.size kl) (S:=S) (Sp:=Sp) (N:=N) (w0:=wk) hsq KpL.trans
  (λW l o o' hl ho hc _=>KpL.put (by omega) ho hc) hbk hps
  (λpre W=>HI pre∧St ⟨w0,fz0,[],Fence.wide,9⟩ W (LL pre)) (λc pre W=>c=.ret∧HX pre∧St ⟨w0,fz0,[],Fence.wide,9⟩ W (XR pre))
  (λpre X Y row hs hg hr=>⟨hs.1,St.own hs.2 hsz hsz0 hg hr⟩) (λc pre X Y row hs hg hr=>⟨hs.1,hs.2.1,St.own hs.2.2 hsz hsz0 hg hr⟩) ⟨hI0,hz⟩
  (λx a' W=>∃ gs,gs.length=na∧Fr [] a' n (FA x gs)∧(∀ e∈LA x gs,w0.heap.size≤e.1∧Blk W e.1 e.2.1 e.2.2)∧(G++gs).Nodup)
  (λx a' _ X Y row hs hg hr=>?_) ?_ ?_ ?_ ?_
 ·obtain ⟨gs,hl0,h1,h2,h3⟩:=hs
  refine ⟨gs,hl0,h1,λe he=>⟨(h2 e he).1,(h2 e he).2.grown hg (λq=>?_)⟩,h3⟩
  obtain ⟨o,ho,hc⟩:=(hr e.1 q.symm).2
  have hb:=(h2 e he).2
  unfold Blk at hb
  rw [hb] at ho
  cases ho
  cases hc
 ·-- the loop variables
  intro l pre x W K hI0' hk
  obtain ⟨hH,hI⟩:=hI0'
  have hfr:Fr [] { tmps:=(ps.zip (encs x)).foldl (λt (p,v)=>t.setIfInBounds p v) a.tmps,defers:=[] } n (roundF F ps (encs x)):=by
   have h1:Fr [] { tmps:=a.tmps,defers:=[] } n F:=⟨rfl,ha.2.1,ha.2.2⟩
   have h2:=Fr.round (ps.toList.zip (encs x).toList) (λy hy=>hpn y.1 (List.of_mem_zip hy).1) h1
   have e:(ps.zip (encs x)).foldl (λt (p,v)=>t.setIfInBounds p v) a.tmps=(ps.toList.zip (encs x).toList).foldl (λt x=>t.setIfInBounds x.1 x.2) a.tmps:=by
    rw [← Array.foldl_toList,Array.toList_zip]
   rw [e]
   exact h2
  refine wpIn_mono (hassign l W pre x _ W hfr (hI.refix _ _ _)) λe a' W' hq=>?_
  cases e with
  | normal =>
   obtain ⟨gs,hl0,h1,h2⟩:=hq
   have hsub:(LL pre).Sublist (LL pre++LA x gs):=List.sublist_append_left _ _
   refine hk a' W' (hI.keeps h2 hsz0) (hK hI h2 hsub) ⟨hH,(hI.back h2 _ _ _).less hsub⟩ ⟨gs,hl0,h1,λe he=>h2.blk e.1 e.2.1 e.2.2 (List.mem_append_right _ he),?_⟩
   have:=h2.apart
   rwa [List.map_append,hG,hLA _ _ hl0] at this
  | _=>exact hq.elim
 ·-- the body
  intro l pre x a' W hl _ hI0' ⟨gs,hl0,h1,h2,h3⟩ hlen
  obtain ⟨hH,hI⟩:=hI0'
  have hst:St (rb w0 W l) W (LL pre++LA x gs):=by
   refine ⟨hI.below,λg t cs hm=>?_,?_,Nat.le_refl _,λ_ _ _ h _=>h⟩
   ·rcases List.mem_append.1 hm with hm | hm
    ·exact hI.blk g t cs hm
    ·exact h2 (g,t,cs) hm
   ·rw [List.map_append,hG,hLA _ _ hl0]
    exact h3
  refine wpIn_mono (hbody l W pre x gs hl0 hlen hH a' W h1 hst) λe a3 W3 hq=>?_
  cases e with
  | normal=>exact ⟨hI.keeps hq.2 hsz0,hK hI hq.2 (List.Sublist.refl _),hq.1,hI.back hq.2 _ _ _⟩
  | ret=>exact ⟨hI.keeps hq.2 hsz0,rfl,hq.1,hI.back hq.2 _ _ _⟩
  | _=>exact hq.elim
 ·intro D xs W hD hS hI hd
  exact hdone D W xs hS hI.1 (Nat.le_trans hsz0 hD) hd _ W ⟨by simp [had],ha.2.1,ha.2.2⟩ (hI.2.refix _ _ _)
 ·rintro D c pre W hD hS ⟨rfl,hx,hI⟩ hd
  exact wpIn_ret (hstop D W pre hS hx (Nat.le_trans hsz0 hD) hd _ W ⟨by simp [had],ha.2.1,ha.2.2⟩ (hI.refix _ _ _))
theorem bpN {α:Type} {l:Nat} {HI:List α→Prop} {LL XR:List α→Blocks} {HX:List α→Prop} {pre:List α} (m:List Bool) {M:Blocks} (hL:sel L m=M) (hM:M=LL pre) (hi:HI pre):X (rb w0 fz0 l) n (BP w0 fz0 l HI LL XR HX pre) F L .normal:=λ_ _ _ hw=>by
 subst hL
 refine ⟨hi,?_⟩
 rw [← hM]
 exact hw.less (sel_sub L m)
theorem apN {l na:Nat} {FA:List Nat→Slots} {LP:Blocks} {LA:List Nat→Blocks} (gs:List Nat) (hg:gs.length=na) (hF:∀ p∈FA gs,F.lookup p.1=some p.2) (m:List Bool) (hL:sel L m=LP++LA gs):X (rb w0 fz0 l) n (AP w0 fz0 l n na FA LP LA) F L .normal:=λ_ _ ha hw=>⟨gs,hg,ha.all hF,hL ▸ hw.less (sel_sub L m)⟩
def GetsN (w:World) (R:Value→Blocks→Prop) (e:Ending) (w':World):Prop:=∃ v M,e=.returned v∧R v M∧Below w.heap.size w w'∧(∀ g t cs,(g,t,cs)∈M→w.heap.size≤g∧Blk w' g t cs)∧(M.map (·.1)).Nodup
theorem St.addN {w0:Base} {w w':World} {L M:Blocks} (h:St w0 w L) (hg:Gr w w') (hM:∀ g t cs,(g,t,cs)∈M→w.heap.size≤g∧Blk w' g t cs) (hn:(M.map (·.1)).Nodup):St w0 w' (L++M):=by
 have h':=h.gr hg
 refine ⟨h'.below,λg t cs hm=>?_,?_,h'.size,h'.non⟩
 ·rcases List.mem_append.1 hm with hm | hm
  ·exact h'.blk g t cs hm
  ·exact ⟨Nat.le_trans h.below.size (hM g t cs hm).1,(hM g t cs hm).2⟩
 ·rw [List.map_append,List.nodup_append]
  refine ⟨h.apart,hn,λx hx y hy e=>?_⟩
  obtain ⟨⟨g,t,cs⟩,hm,rfl⟩:=List.mem_map.1 hx
  obtain ⟨⟨g',t',cs'⟩,hm',rfl⟩:=List.mem_map.1 hy
  have h1:=(h.blk g t cs hm).2.lt
  have h2:=(hM g' t' cs' hm').1
  have e':g=g':=e
  omega
theorem callN {w0:Base} {ops:Array Oper} {o:Oper} {l:List Oper} (hg:good ops n F o=true) (f:FuncId) (args:Array Value) (he:∀ w,(execOp (evF F) o).run P w=.ok (.enter f args) w) (R:Value→Blocks→Prop)
  (hc:∀ w,St w0 w L→Calls P f args w (GetsN w R)) (h:∀ v M,R v M→wpS P w0 n ops Q (putF F o.dst v) (L++M) l):wpS P w0 n ops Q F L (o::l):=λa w ha hw=>by
 obtain ⟨g1,_,g3,_⟩:=good_spec hg
 refine wpList_step λK hK=>?_
 rw [if_pos (ha.wanted g1)]
 unfold Oper.wp
 rw [good_exec hg ha,he w]
 refine Calls.mono (hc w hw) λe w' he'=>?_
 obtain ⟨v,M,rfl,hR,hb,hM,hn⟩:=he'
 exact hK _ _ (h v M hR _ _ (ha.put g3 v) (hw.addN hb hM hn))
theorem callND {w0:Base} {ops:Array Oper} {ex:Nat→Bool} {fuel:Nat} {listed:Array Bool} (k:Nat) {oi:Oper} (hi0:ops.toList[k]? = some oi) (hr:Region.ready .any ops listed=[k]) (hg:good ops n F oi=true) (f:FuncId) (args:Array Value)
  (he:∀ w,(execOp (evF F) oi).run P w=.ok (.enter f args) w) (R:Value→Blocks→Prop) (hc:∀ w,St w0 w L→Calls P f args w (GetsN w R)) (h:∀ v M,R v M→wpD P w0 n ops Q ex (putF F oi.dst v) (L++M) fuel (listed.setIfInBounds k true)):wpD P w0 n ops Q ex F L (fuel+1) listed:=λa w ha hw =>
 wpAnyG_sole k hi0 hr (ha.wanted (good_spec hg).1) λw1 h1 K hK=>by
  unfold Oper.wp
  rw [good_exec hg ha,he w1]
  refine Calls.mono (hc w1 (hw.gr h1)) λe w' he'=>?_
  obtain ⟨v,M,rfl,hR,hb,hM,hn⟩:=he'
  exact hK _ _ (λ_=>hb) (h v M hR _ _ (ha.put (good_spec hg).2.2.1 v) ((hw.gr h1).addN hb hM hn))
theorem St.unmark {w0 fz:World} {D:Nat} {w:World} (h:St (ab w0 fz D) w L) (hD:w0.heap.size≤D) (hm:fz.heap[D]? = some (.deferred (some []))) :
  (Instr.takeDeferred D).run P w=.ok [] (w.putObj D (.deferred none))∧St (Base.of w0) (w.putObj D (.deferred none)) L:=by
 have ho:=h.non D _ hD hm rfl
 have hg:=grownBy_putObj' w D (.deferred none)
 refine ⟨run_takeDeferred ho,?_⟩
 have h1:St ⟨w0,w0,[],Fence.wide,9⟩ w L:=⟨h.below,h.blk,h.apart,h.below.size,λk o hk hq _=>by have:=(Array.getElem?_eq_some_iff.1 hq).1; exact absurd this (by show ¬ k<w0.heap.size; have:w0.heap.size≤k:=hk; omega)⟩
 exact h1.own (B:=w0.heap.size) (Nat.le_refl _) (Nat.le_refl _) hg (λr e=>by cases e; exact ⟨hD,_,ho,rfl⟩)
theorem retM1 {w1 fz:World} {D:Nat} {fn:Func} {r:ResultVar} {v:Value} (hr:fn.results=#[r]) (h:Has P F L r v) (hD:w1.heap.size≤D) (hm:fz.heap[D]? = some (.deferred (some []))):X (ab w1 fz D) n (bodyPostM Fence.wide 9 P fn (Gets w1 v)) F L .ret:=λa w ha hw=>by
 obtain ⟨e1,e2⟩:=St.unmark (P:=P) hw hD hm
 have hd:a.defers=[mark D]:=ha.1
 show LeavesInM Fence.wide 9 P fn a.tmps (Gets w1 v) a.defers .returning w
 rw [hd]
 refine ⟨by simp,.inl ⟨D,_,rfl,e1,?_⟩⟩
 refine ⟨v,?_,rfl,e2.below⟩
 rcases Res.run h ha e2 with ⟨t,rfl,f1⟩ | ⟨t,ty,ad,rfl,f1,f2⟩ <;> simp [results,Result.andThen, *]
end
end Sy
end
section
namespace Sy
open Go.RowKit
abbrev pb (W:World) (m:Nat):Base:=⟨W,W,[],Fence.wide,m⟩
theorem St.here (W:World) (m:Nat):St (pb W m) W []:=⟨Below.refl _ _,(λ_ _ _ h=>by cases h),List.Pairwise.nil,Nat.le_refl _,λ_ _ _ h _=>h⟩
theorem St.grown {W w:World} {m:Nat} {L:Blocks} (h:St (pb W m) w L):Gr W w:=h.below
section
variable {P:Program} {W:World} {m n:Nat} {Q:Exit→Act→World→Prop} {F:Slots} {L:Blocks} {ops:Array Oper} {o:Oper} {rest:List Oper}
theorem operIn_wide {o:Oper} {a:Act} {w:World} {K:Act→World→Prop} (hd:∀ c,o.op≠.defer c) (h:o.wp P a w K Q):o.wpIn Fence.wide m P a w K Q:=by
 unfold Oper.wpIn
 refine ⟨λ_ _=>trivial,?_⟩
 rw [Oper.semAt_plain _ _ _ hd]
 unfold Oper.wp at h
 generalize (execOp a.eval o).run P w=r at *
 cases r with
 | ok x w' =>
  cases x <;> simp only [Oper.upon,Oper.uponIn] at h ⊢ <;> first
   | exact h
   | exact ⟨λe=>by simp [Fence.wide] at e,callsIn_wide.2 h⟩
   | exact ⟨λe=>by simp [Fence.wide] at e,λc cs _=>let ⟨v,w',r,s⟩:=h c cs; ⟨v,w',r,stepsIn_wide.2 s⟩⟩
   | exact h.elim
 | halt x w'=>cases x <;> simp only [Oper.upon,Oper.uponIn] at h ⊢ <;> exact h
def thenI (P:Program) (ops:Array Oper) (m:Nat) (rest:List Oper) (Q:Exit→Act→World→Prop):Exit→Act→World→Prop
 | .normal,a,w=>wpListIn Fence.wide m P ops Q rest a w
 | e,a,w=>Q e a w
theorem listIn_app (hq:¬ LetsOut Q):∀ (l:List Oper),(∀ o∈l, ∀ c,o.op≠.defer c)→∀ (a:Act) (w:World),wpList P ops (thenI P ops m rest Q) l a w→wpListIn Fence.wide m P ops Q (l++rest) a w
 | [],_,_,_,h=>h
 | o::l,hd,a,w,h=>by
  have hq':¬ LetsOut (thenI P ops m rest Q):=λ⟨a,w,q⟩=>hq ⟨a,w,q⟩
  unfold wpList at h
  show wpListIn Fence.wide m P ops Q (o::(l++rest)) a w
  unfold wpListIn
  split
  ·rename_i hw
   simp only [hw,if_true] at h
   rcases h with h | h
   ·have h1:=operIn_wide (m:=m) (hd o (by simp)) h
    have h2:o.wpIn Fence.wide m P a w _ Q:=h1
    exact Oper.wpIn_mono (λa w h'=>listIn_app hq l (λo ho=>hd o (by simp [ho])) a w h') h2
   ·exact absurd h.2 hq'
  ·rename_i hw
   simp only [hw] at h
   exact ⟨λ_ _=>trivial,listIn_app hq l (λo ho=>hd o (by simp [ho])) _ _ h⟩
theorem listIn_wide (hq:¬ LetsOut Q):∀ (l:List Oper),(∀ o∈l, ∀ c,o.op≠.defer c)→∀ (a:Act) (w:World),wpList P ops Q l a w→wpListIn Fence.wide m P ops Q l a w
 | [],_,_,_,h=>h
 | o::l,hd,a,w,h=>by
  unfold wpList at h
  unfold wpListIn
  split
  ·rename_i hw
   simp only [hw,if_true] at h
   rcases h with h | h
   ·exact Oper.wpIn_mono (λa w h'=>listIn_wide hq l (λo ho=>hd o (by simp [ho])) a w h') (operIn_wide (hd o (by simp)) h)
   ·exact absurd h.2 hq
  ·rename_i hw
   simp only [hw] at h
   exact ⟨λ_ _=>trivial,listIn_wide hq l (λo ho=>hd o (by simp [ho])) _ _ h⟩
theorem noDefer_mem (h:noDefer ops=true) {o:Oper} (ho:o∈ops.toList):∀ c,o.op≠.defer c:=by
 obtain ⟨i,hi⟩:=List.mem_iff_getElem?.1 ho
 exact noDefer_spec h (by simpa using hi)
theorem regionY {i:Nat} (k:Nat) (hq:¬ LetsOut Q) (hd:noDefer ops=true) (h:wpS P (pb W m) n ops (thenI P ops m (ops.toList.drop k) Q) F L (ops.toList.take k)):wpC P (pb W m) n Q F L (.region i ops false):=λa w ha hw=>by
 refine wpIn_region_list ?_
 have h1:=listIn_app hq (ops.toList.take k) (λo ho=>noDefer_mem hd (List.mem_of_mem_take ho)) a w (h a w ha hw)
 rwa [List.take_append_drop] at h1
theorem yieldX {ro:Option Nat} {k:Nat} (hl:ops.toList.drop k=o::rest) (hq:¬ LetsOut Q) (hd:noDefer ops=true) (hg:good ops n F o=true) (l:Nat) (args:Array Value) (he:∀ w,(execOp (evF F) o).run P w=(Instr.yield l args).run P w)
  (R:Ending→World→Prop) (hY:∀ w,Gr W w→YieldAt Fence.wide (m - 1) P l args w R) (hR:∀ e w',R e w'→∃ b,e=.returned (.bool b)) (_:ro=none)
  (h:∀ w' b,R (.returned (.bool b)) w'→wpS P (pb w' m) n ops Q (putF F o.dst (.bool b)) [] rest):X (pb W m) n (thenI P ops m (ops.toList.drop k) Q) F L .normal:=λa w ha hw=>by
 show wpListIn Fence.wide m P ops Q (ops.toList.drop k) a w
 have hdr:∀ o∈ops.toList.drop k, ∀ c,o.op≠.defer c:=λo ho=>noDefer_mem hd (List.mem_of_mem_drop ho)
 rw [hl] at hdr ⊢
 obtain ⟨g1,_,g3,_⟩:=good_spec hg
 unfold wpListIn
 rw [if_pos (ha.wanted g1)]
 unfold Oper.wpIn
 refine ⟨λ_ _=>trivial,?_⟩
 rw [Oper.semAt_plain _ _ _ (hdr o (by simp)),good_exec hg ha,he w]
 obtain ⟨fn,tmps,assign,body,e1,e2⟩:=hY w hw.grown
 rw [e1]
 refine ⟨λe=>by simp [Fence.wide] at e,e2.mono λe w' hr=>?_⟩
 obtain ⟨b,rfl⟩:=hR e w' hr
 exact listIn_wide hq rest (λo ho=>hdr o (by simp [ho])) _ _ (h w' b hr _ _ (ha.put g3 _) (St.here w' m))
theorem abides_gr {β:Type} {B:Nat} {J:β→World→Prop} (h:AbidesFrom B J) {s:β} {X Y:World} (hj:J s X) (hg:Gr X Y):J s Y:=h s X Y none hj (only_of_below hg none) (λr e=>by cases e)
theorem yield_mono {l:Nat} {args:Array Value} {R R':Ending→World→Prop} (h:YieldAt Fence.wide m P l args W R) (hr:∀ e w,R e w→R' e w):YieldAt Fence.wide m P l args W R':=by
 obtain ⟨fn,tmps,assign,body,e1,e2⟩:=h
 exact ⟨fn,tmps,assign,body,e1,e2.mono hr⟩
def NextP (n N:Nat) (FF:Nat→Slots) (Z:Nat→World→Prop) (k:Nat):Act→World→Prop:=λa w=>k<N∧Fr [] a n (FF (k+1))∧Z (k+1) w
theorem loopP {c:Code} (N:Nat) (FF:Nat→Slots) (Z:Nat→World→Prop) (hF:∀ p∈FF 0,F.lookup p.1=some p.2) (h0:∀ w,Gr W w→Z 0 w)
  (hr:∀ k w,k≤N→Z k w→wpC P (pb w m) n (Exit.then (NextP n N FF Z k) Q) (FF k) [] c):wpC P (pb W m) n Q F L (.loop c) :=
 loopI N (λk a w=>Fr [] a n (FF k)∧Z k w) (λa w ha hw=>⟨ha.all hF,h0 w hw.grown⟩)
  λk hk a w ⟨ha,hz⟩=>hr k w hk hz a w ha (St.here w m)
theorem againP {N:Nat} {FF:Nat→Slots} {Z:Nat→World→Prop} {k:Nat} {R:Exit→Act→World→Prop} (hk:k<N) (hF:∀ p∈FF (k+1),F.lookup p.1=some p.2) (hz:∀ w,Gr W w→Z (k+1) w) :
  X (pb W m) n (Exit.then (NextP n N FF Z k) R) F L .normal:=λ_ w ha hw=>⟨hk,ha.all hF,hz w hw.grown⟩
theorem enterP {f:FuncId} {fn:Func} {c:Code} {args:List Value} {R:Ending→World→Prop} (hf:P.funcs[f]? = some fn) (hb:fn.body=some c) (hn:args.length≤fn.ntmps)
  (h:wpC P (pb W m) fn.ntmps (bodyPost P fn R) (slotsOf 0 args) [] c):CallsIn Fence.wide m P f args.toArray W R :=
 callsIn_of_wp hf hb trivial (h _ _ ⟨rfl,by simp; omega,λi v hi=>by
  have:=(lookup_slotsOf args 0 i v hi).2
  rw [Nat.sub_zero] at this
  have hl:=(List.getElem?_eq_some_iff.1 this).1
  rw [Array.getElem?_append_left (by simpa using hl)]
  simpa using this⟩ (St.here W m)) rfl
theorem retP {fn:Func} {R:Ending→World→Prop} (hr:fn.results=#[]) (h:∀ v w,Gr W w→R (.returned v) w) {e:Exit} (he:e=.ret∨e=.normal):X (pb W m) n (bodyPost P fn R) F L e:=λa w ha hw=>by
 have hx:a.defers=[]∧∃ v,(results fn a.tmps).run P w=.ok v w∧R (.returned v) w:=⟨ha.1,_,results_none hr _ _ _,h _ w hw.grown⟩
 rcases he with rfl | rfl <;> exact hx
end
end Sy
end
section
namespace Sy
open Go.RowKit
section
variable {P:Program} {w0 fz0:World} {n:Nat} {Q:Exit→Act→World→Prop} {F:Slots} {L:Blocks}
end
end Sy
end
section
namespace Sy
open Go.RowKit
section
variable {P:Program} {w0:Base} {n:Nat} {Q:Exit→Act→World→Prop} {F:Slots} {L:Blocks} {ops:Array Oper} {o:Oper} {l:List Oper}
theorem qP {v:Value} (h:∀ w,(execOp (evF F) o).run P w=.ok (.value v) w:=by intro _; kernel_rfl):Quiet P w0 F L o v:=Quiet.pure h
theorem qF {v:Value} (f:FuncId) (args:Array Value) (h:∀ w,Calls P f args w λe w'=>e=.returned v∧Below w.heap.size w w') (he:∀ w,(execOp (evF F) o).run P w=.ok (.enter f args) w:=by intro _; kernel_rfl):Quiet P w0 F L o v:=Quiet.call f args he h
theorem qG {v:Value} (f:FuncId) (args:Array Value) (h:∀ w,St w0 w L→Calls P f args w (Gets w v)) (he:∀ w,(execOp (evF F) o).run P w=.ok (.enter f args) w:=by intro _; kernel_rfl):Quiet P w0 F L o v:=Quiet.callS f args he h
theorem qL {x:Operand} {d:TypeDesc} {v:Value} (i g f k:Nat) (t ty:TypeId) (cs:Array Value) (ho:o.op=.load ty x) (hu:P.underlying ty=some d) (hx:evF F x=.pointer (some ⟨g,f,none⟩):=by kernel_rfl)
  (hL:L[i]? = some (g,t,cs):=by kernel_rfl) (hd:d.isRow=true:=by rfl) (hi:(P.info? ty).map (·.size)=some k:=by kernel_rfl) (hv:Value.agg ((cs.toList.drop f).take k).toArray=v:=by kernel_rfl) (hk:Nat.ble (f+k) cs.size=true:=by kernel_rfl):Quiet P w0 F L o v :=
 Quiet.load i g f k t ty cs d x ho hx hL hu hd hi v hv (Nat.le_of_ble_eq_true hk)
theorem qC {x:Operand} {d:TypeDesc} {v:Value} (i g f:Nat) (t ty:TypeId) (cs:Array Value) (ho:o.op=.load ty x) (hu:P.underlying ty=some d) (hx:evF F x=.pointer (some ⟨g,f,none⟩):=by kernel_rfl)
  (hL:L[i]? = some (g,t,cs):=by kernel_rfl) (hd:d.isRow=false:=by rfl) (hv:cs[f]? = some v:=by kernel_rfl):Quiet P w0 F L o v :=
 Quiet.cell i g f t ty cs d x ho hx hL hu hd v hv
theorem sS (v:Value) (hq:Quiet P w0 F L o v) (h:wpS P w0 n ops Q (putF F o.dst v) L l) (hg:good ops n F o=true:=by kernel_rfl):wpS P w0 n ops Q F L (o::l):=step hg v hq h
theorem sN (h:wpS P w0 n ops Q (putF F o.dst undef) L l) (hg:wantedF ops F o=some false:=by kernel_rfl) (hd:fits n o.dst=true:=by kernel_rfl):wpS P w0 n ops Q F L (o::l):=pass hg hd h
theorem sM (t:TypeId) (cs:Array Value) (h:∀ g,wpS P w0 n ops Q (putF F o.dst (ptr g)) (L++[(g,t,cs)]) l) (hg:good ops n F o=true:=by kernel_rfl) (hm:∀ w,(execOp (evF F) o).run P w=.ok (.value (ptr w.heap.size)) (w.alloc (.cells cs t)):=by intro _; kernel_rfl):wpS P w0 n ops Q F L (o::l):=make hg t cs ptr hm h
theorem sW (i g:Nat) (t:TypeId) (cs cs':Array Value) (hm:Writes P F o g t cs cs') (h:wpS P w0 n ops Q (putF F o.dst undef) (L.set i (g,t,cs')) l) (hg:good ops n F o=true:=by kernel_rfl) (hL:L[i]? = some (g,t,cs):=by kernel_rfl):wpS P w0 n ops Q F L (o::l):=write hg i g t cs cs' hL hm h
theorem wS {x y:Operand} (f:Nat) {g:Nat} {t:TypeId} {cs cs':Array Value} (ty:TypeId) (cells:Array Value) (ho:o.op=.store ty x y) (hx:evF F x=.pointer (some ⟨g,f,none⟩):=by kernel_rfl) (hy:evF F y=.agg cells:=by kernel_rfl)
  (hi:(P.info? ty).map (·.size)=some cells.size:=by kernel_rfl) (hk:Nat.ble (f+cells.size) cs.size=true:=by kernel_rfl) (h1:cells.all (·.oneCell')=true:=by kernel_rfl) (hcs:setAll cs f cells.toList=cs':=by kernel_rfl):Writes P F o g t cs cs' :=
 Writes.store f ty cells x y ho hx hy hi (Nat.le_of_ble_eq_true hk) h1 hcs
theorem wO {x y:Operand} (f:Nat) {g:Nat} {t:TypeId} {cs cs':Array Value} (ty:TypeId) (v:Value) (ho:o.op=.store ty x y) (hx:evF F x=.pointer (some ⟨g,f,none⟩):=by kernel_rfl) (hy:evF F y=v:=by kernel_rfl)
  (hi:(P.info? ty).map (·.size)=some 1:=by kernel_rfl) (hv:v.cells=#[v]:=by rfl) (h1:v.oneCell'=true:=by rfl) (hk:Nat.ble (f+1) cs.size=true:=by kernel_rfl) (hcs:cs.setIfInBounds f v=cs':=by kernel_rfl):Writes P F o g t cs cs' :=
 Writes.one f ty v x y ho hx hy hi hv h1 (Nat.le_of_ble_eq_true hk) hcs
variable {ex:Nat→Bool} {fuel:Nat} {listed:Array Bool}
theorem sD (i:Nat) {oi:Oper} (hi0:ops.toList[i]? = some oi) (v:Value) (hq:Quiet P w0 F L oi v) (h:wpD P w0 n ops Q ex (putF F oi.dst v) L fuel (listed.setIfInBounds i true)) (hc:canTake .any ops listed ex i=true:=by kernel_rfl)
  (hg:good ops n F oi=true:=by kernel_rfl) (hQ:∀ c v a w,Q (.panic c) (a.put oi.dst v) w→Q (.panic c) a w:=by exact λ_ _ _ _ h=>h):wpD P w0 n ops Q ex F L (fuel+1) listed:=stepD i hi0 hc hQ hg v hq h
theorem sQ (i:Nat) {oi:Oper} (hi0:ops.toList[i]? = some oi) (h:wpD P w0 n ops Q ex (putF F oi.dst undef) L fuel (listed.setIfInBounds i true)) (hc:canTake .any ops listed ex i=true:=by kernel_rfl)
  (hg:wantedF ops F oi=some false:=by kernel_rfl) (hd:fits n oi.dst=true:=by kernel_rfl) (hQ:∀ c v a w,Q (.panic c) (a.put oi.dst v) w→Q (.panic c) a w:=by exact λ_ _ _ _ h=>h):wpD P w0 n ops Q ex F L (fuel+1) listed:=passD i hi0 hc hQ hg hd h
theorem sO (i:Nat) {oi:Oper} (hi0:ops.toList[i]? = some oi) (t:TypeId) (cs:Array Value) (h:∀ g,wpD P w0 n ops Q ex (putF F oi.dst (ptr g)) (L++[(g,t,cs)]) fuel (listed.setIfInBounds i true)) (hr:Region.ready .any ops listed=[i]:=by kernel_rfl) (hg:good ops n F oi=true:=by kernel_rfl)
  (hm:∀ w,(execOp (evF F) oi).run P w=.ok (.value (ptr w.heap.size)) (w.alloc (.cells cs t)):=by intro _; kernel_rfl):wpD P w0 n ops Q ex F L (fuel+1) listed:=makeD i hi0 hr hg t cs ptr hm h
theorem sX (k:Nat) {oi:Oper} (hi0:ops.toList[k]? = some oi) (i g:Nat) (t:TypeId) (cs cs':Array Value) (hm:Writes P F oi g t cs cs') (h:wpD P w0 n ops Q ex (putF F oi.dst undef) (L.set i (g,t,cs')) fuel (listed.setIfInBounds k true))
  (hr:Region.ready .any ops listed=[k]:=by kernel_rfl) (hex:ex k=true:=by rfl) (hg:good ops n F oi=true:=by kernel_rfl) (hL:L[i]? = some (g,t,cs):=by kernel_rfl):wpD P w0 n ops Q ex F L (fuel+1) listed:=writeD k hi0 hr hex hg i g t cs cs' hL hm h
theorem sE (h:X w0 n Q F L .normal) (hr:Region.ready .any ops listed=[]:=by kernel_rfl):wpD P w0 n ops Q ex F L fuel listed:=doneD hr h
theorem sT {c:Operand} {x y:Code} (h:wpC P w0 n Q F L x) (hi:inF F c=true:=by kernel_rfl) (hc:evF F c=.bool true:=by kernel_rfl):wpC P w0 n Q F L (.cond c x y):=cond_t hi hc h
theorem sU {c:Operand} {x y:Code} (h:wpC P w0 n Q F L y) (hi:inF F c=true:=by kernel_rfl) (hc:evF F c=.bool false:=by kernel_rfl):wpC P w0 n Q F L (.cond c x y):=cond_f hi hc h
theorem sC {i:Nat} {y:Code} (h:wpS P w0 n ops (Exit.then (y.wpIn w0.fence w0.room P Q) Q) F L ops.toList) (hf:w0.fence=Fence.wide:=by rfl):wpC P w0 n Q F L (.seq (.region i ops false) y):=seq (region h hf)
theorem sB {i:Nat} {y:Code} (h:wpS P w0 n ops (Exit.then (y.wpIn w0.fence w0.room P Q) Q) F L ops.toList) (hf:w0.fence=Fence.wide:=by rfl):X w0 n (Exit.then ((Code.seq (.region i ops false) y).wpIn w0.fence w0.room P Q) Q) F L .normal:=then_ (sC h hf)
theorem sA {i:Nat} {y:Code} {ops0:Array Oper} (h:wpS P w0 n ops (Exit.then (y.wpIn w0.fence w0.room P Q) Q) F L ops.toList) (hf:w0.fence=Fence.wide:=by rfl):wpS P w0 n ops0 (Exit.then ((Code.seq (.region i ops false) y).wpIn w0.fence w0.room P Q) Q) F L []:=nil (sB h hf)
theorem sP (v:Value) (h:wpS P w0 n ops Q (putF F o.dst v) L l) (hp:∀ w,(execOp (evF F) o).run P w=.ok (.value v) w:=by intro _; kernel_rfl) (hg:good ops n F o=true:=by kernel_rfl):wpS P w0 n ops Q F L (o::l):=step hg v (Quiet.pure hp) h
theorem sZ (i:Nat) {oi:Oper} (hi0:ops.toList[i]? = some oi) (v:Value) (h:wpD P w0 n ops Q ex (putF F oi.dst v) L fuel (listed.setIfInBounds i true)) (hp:∀ w,(execOp (evF F) oi).run P w=.ok (.value v) w:=by intro _; kernel_rfl) (hc:canTake .any ops listed ex i=true:=by kernel_rfl)
  (hg:good ops n F oi=true:=by kernel_rfl) (hQ:∀ c v a w,Q (.panic c) (a.put oi.dst v) w→Q (.panic c) a w:=by exact λ_ _ _ _ h=>h):wpD P w0 n ops Q ex F L (fuel+1) listed:=stepD i hi0 hc hQ hg v (Quiet.pure hp) h
theorem sR {i:Nat} {y:Code} (ex:Nat→Bool) (h:wpD P w0 n ops (Exit.then (y.wpIn w0.fence w0.room P Q) Q) ex F L ops.size (Array.replicate ops.size false)) (hm:P.follows .mixedOrders=true:=by kernel_rfl) (hf:w0.fence=Fence.wide:=by rfl):X w0 n (Exit.then ((Code.seq (.region i ops true) y).wpIn w0.fence w0.room P Q) Q) F L .normal:=then_ (seq (regionD ex hm h hf))
theorem sH {i:Nat} {y:Code} {ops0:Array Oper} (ex:Nat→Bool) (h:wpD P w0 n ops (Exit.then (y.wpIn w0.fence w0.room P Q) Q) ex F L ops.size (Array.replicate ops.size false)) (hm:P.follows .mixedOrders=true:=by kernel_rfl) (hf:w0.fence=Fence.wide:=by rfl):wpS P w0 n ops0 (Exit.then ((Code.seq (.region i ops true) y).wpIn w0.fence w0.room P Q) Q) F L []:=nil (sR ex h hm hf)
theorem sG {y:Code} {ops0:Array Oper} (h:wpC P w0 n Q F L y):wpS P w0 n ops0 (Exit.then (y.wpIn w0.fence w0.room P Q) Q) F L []:=nil (then_ h)
def opV (F:Slots):Op→Option Value
 | .move (.tmp t)=>F.lookup t
 | .assign (.tmp t)=>F.lookup t
 | .move (.const v)=>some v
 | .assign (.const v)=>some v
 | .nilCheck (.tmp t)=>match F.lookup t with | some (.pointer (some a))=>some (.pointer (some a)) | _=>none
 | .extract (.tmp t) i=>match F.lookup t with | some (.tuple vs)=>vs[i]? | _=>none
 | _=>none
theorem opV_run {v:Value} (h:opV F o.op=some v) (w:World):(execOp (evF F) o).run P w=.ok (.value v) w:=by
 unfold execOp
 generalize o.op=op at h
 unfold opV at h
 split at h
 ·simp [evF,h]
 ·simp [evF,h]
 ·cases h; simp [evF]
 ·cases h; simp [evF]
 ·split at h
  ·rename_i a e
   cases h
   simp [evF,e]
  ·cases h
 ·split at h
  ·rename_i vs e
   simp [evF,e,Instr.extract,h]
  ·cases h
 ·cases h
theorem sp {v:Value} (hl:opV F o.op=some v) (h:wpS P w0 n ops Q (putF F o.dst v) L l) (hg:good ops n F o=true:=by kernel_rfl):wpS P w0 n ops Q F L (o::l):=step hg v (Quiet.pure (opV_run hl)) h
theorem sz (i:Nat) {oi:Oper} (hi0:ops.toList[i]? = some oi) {v:Value} (hl:opV F oi.op=some v) (h:wpD P w0 n ops Q ex (putF F oi.dst v) L fuel (listed.setIfInBounds i true)) (hc:canTake .any ops listed ex i=true:=by kernel_rfl)
  (hg:good ops n F oi=true:=by kernel_rfl) (hQ:∀ c v a w,Q (.panic c) (a.put oi.dst v) w→Q (.panic c) a w:=by exact λ_ _ _ _ h=>h):wpD P w0 n ops Q ex F L (fuel+1) listed:=stepD i hi0 hc hQ hg v (Quiet.pure (opV_run hl)) h
theorem sI {y:Code} (h:wpC P w0 n Q F L y) (hr:Region.ready .any ops listed=[]:=by kernel_rfl):wpD P w0 n ops (Exit.then (y.wpIn w0.fence w0.room P Q) Q) ex F L fuel listed:=doneD hr (then_ h)
theorem rC {w1:World} {fn:Func} {z:Tmp} {ty:TypeId} {d:TypeDesc} {v:Value} (t:TypeId) (g i:Nat) (cs:Array Value) (hr:fn.results=#[.cell z ty]) (h3:P.underlying ty=some d) (h1:F.lookup z=some (.pointer (some ⟨g,0,none⟩)):=by kernel_rfl) (h2:L[i]? = some (g,t,cs):=by kernel_rfl) (h4:d.isRow=true:=by rfl)
  (h5:(P.info? ty).map (·.size)=some cs.size:=by kernel_rfl) (h6:v=.agg cs:=by kernel_rfl):X (Base.of w1) n (bodyPost P fn (Gets w1 v)) F L .ret:=ret1 hr (.inl (Res.cell (ty':=t) g i cs d h1 h2 h3 h4 h5 h6))
theorem rV {w1:World} {fn:Func} {z:Tmp} (v:Value) (hr:fn.results=#[.tmp z]) (h:F.lookup z=some v:=by kernel_rfl):X (Base.of w1) n (bodyPost P fn (Gets w1 v)) F L .ret:=ret1 hr (.inl h)
end
end Sy
end
section
namespace Sy
open Go.RowKit
section
variable {P:Program} {w0:Base} {n:Nat} {Q:Exit→Act→World→Prop} {F:Slots} {L:Blocks} {ops:Array Oper} {o:Oper} {l:List Oper}
theorem qk {x:Operand} {d:TypeDesc} {v:Value} {g:Nat} {t ty:TypeId} {cs:Array Value} (i f k:Nat) (hL:L[i]? = some (g,t,cs)) (ho:o.op=.load ty x) (hu:P.underlying ty=some d) (hx:evF F x=.pointer (some ⟨g,f,none⟩):=by kernel_rfl)
  (hd:d.isRow=true:=by rfl) (hi:(P.info? ty).map (·.size)=some k:=by kernel_rfl) (hv:Value.agg ((cs.toList.drop f).take k).toArray=v:=by kernel_rfl) (hk:Nat.ble (f+k) cs.size=true:=by kernel_rfl):Quiet P w0 F L o v :=
 Quiet.load i g f k t ty cs d x ho hx hL hu hd hi v hv (Nat.le_of_ble_eq_true hk)
theorem qc {x:Operand} {d:TypeDesc} {v:Value} {g:Nat} {t ty:TypeId} {cs:Array Value} (i f:Nat) (hL:L[i]? = some (g,t,cs)) (ho:o.op=.load ty x) (hu:P.underlying ty=some d) (hx:evF F x=.pointer (some ⟨g,f,none⟩):=by kernel_rfl)
  (hd:d.isRow=false:=by rfl) (hv:cs[f]? = some v:=by kernel_rfl):Quiet P w0 F L o v :=
 Quiet.cell i g f t ty cs d x ho hx hL hu hd v hv
theorem qg {v:Value} {f:FuncId} {args:Array Value} (h:∀ w,St w0 w L→Calls P f args w (Gets w v)) (he:∀ w,(execOp (evF F) o).run P w=.ok (.enter f args) w:=by intro _; kernel_rfl):Quiet P w0 F L o v:=Quiet.callS f args he h
theorem sw {g:Nat} {t:TypeId} {cs:Array Value} (i:Nat) (hL:L[i]? = some (g,t,cs)) (cs':Array Value) (hm:Writes P F o g t cs cs') (h:wpS P w0 n ops Q (putF F o.dst undef) (L.set i (g,t,cs')) l) (hg:good ops n F o=true:=by kernel_rfl):wpS P w0 n ops Q F L (o::l):=write hg i g t cs cs' hL hm h
theorem wA {x y:Operand} {g:Nat} {t ty:TypeId} {cs cells:Array Value} (ho:o.op=.store ty x y) (hx:evF F x=.pointer (some ⟨g,0,none⟩):=by kernel_rfl) (hy:evF F y=.agg cells:=by kernel_rfl)
  (hi:(P.info? ty).map (·.size)=some cells.size:=by kernel_rfl) (hk:Nat.ble (0+cells.size) cs.size=true:=by kernel_rfl) (h1:cells.all (·.oneCell')=true:=by kernel_rfl) (hcs:setAll cs 0 cells.toList=cells:=by kernel_rfl):Writes P F o g t cs cells :=
 Writes.store 0 ty cells x y ho hx hy hi (Nat.le_of_ble_eq_true hk) h1 hcs
variable {ex:Nat→Bool} {fuel:Nat} {listed:Array Bool}
theorem sx {g:Nat} {t:TypeId} {cs:Array Value} (k:Nat) {oi:Oper} (hi0:ops.toList[k]? = some oi) (i:Nat) (hL:L[i]? = some (g,t,cs)) (cs':Array Value) (hm:Writes P F oi g t cs cs') (h:wpD P w0 n ops Q ex (putF F oi.dst undef) (L.set i (g,t,cs')) fuel (listed.setIfInBounds k true))
  (hr:Region.ready .any ops listed=[k]:=by kernel_rfl) (hex:ex k=true:=by rfl) (hg:good ops n F oi=true:=by kernel_rfl):wpD P w0 n ops Q ex F L (fuel+1) listed:=writeD k hi0 hr hex hg i g t cs cs' hL hm h
def Turns (w0:Base) (R:Value→Blocks→Prop) (e:Ending) (w':World):Prop:=∃ v M,e=.returned v∧R v M∧St w0 w' M
theorem callT {f:FuncId} {args:Array Value} {R:Value→Blocks→Prop} (hc:∀ w,St w0 w L→Calls P f args w (Turns w0 R)) (h:∀ v M,R v M→wpS P w0 n ops Q (putF F o.dst v) M l) (he:∀ w,(execOp (evF F) o).run P w=.ok (.enter f args) w:=by intro _; kernel_rfl) (hg:good ops n F o=true:=by kernel_rfl):wpS P w0 n ops Q F L (o::l):=λa w ha hw=>by
 obtain ⟨g1,_,g3,_⟩:=good_spec hg
 refine wpList_step λK hK=>?_
 rw [if_pos (ha.wanted g1)]
 unfold Oper.wp
 rw [good_exec hg ha,he w]
 refine Calls.mono (hc w hw) λe w' he'=>?_
 obtain ⟨v,M,rfl,hR,hM⟩:=he'
 exact hK _ _ (h v M hR _ _ (ha.put g3 v) hM)
abbrev Base.inn (w0:Base):Base:=⟨w0.world,w0.fz,[],Fence.wide,9⟩
theorem St.inn {w:World} (h:St w0 w L):St w0.inn w L:=⟨h.below,h.blk,h.apart,h.size,h.non⟩
theorem St.out {w:World} (h:St w0.inn w L):St w0 w L:=⟨h.below,h.blk,h.apart,h.size,h.non⟩
theorem enterT {f:FuncId} {fn:Func} {c:Code} {args:List Value} {w:World} {R:Ending→World→Prop} (hw:St w0 w L) (hf:P.funcs[f]? = some fn) (hb:fn.body=some c) (hn:args.length≤fn.ntmps)
  (h:wpC P w0.inn fn.ntmps (bodyPost P fn R) (slotsOf 0 args) L c):Calls P f args.toArray w R :=
 calls_of_wp hf hb (wpIn_wide.1 (h _ _ ⟨rfl,by simp; omega,λi v hi=>by
  have:=(lookup_slotsOf args 0 i v hi).2
  rw [Nat.sub_zero] at this
  have hl:=(List.getElem?_eq_some_iff.1 this).1
  rw [Array.getElem?_append_left (by simpa using hl)]
  simpa using this⟩ hw.inn))
theorem retT0 {fn:Func} {R:Value→Blocks→Prop} (hr:fn.results=#[]) (M:Blocks) (hM:∀ w,St w0 w L→St w0 w M) (h:∀ v,R v M) {e:Exit} (he:e=.ret∨e=.normal:=by first | exact .inl rfl | exact .inr rfl):X w0.inn n (bodyPost P fn (Turns w0 R)) F L e:=λa w ha hw=>by
 have hx:a.defers=[]∧∃ v,(results fn a.tmps).run P w=.ok v w∧Turns w0 R (.returned v) w:=⟨ha.1,_,results_none hr _ _ _,_,M,rfl,h _,hM w hw.out⟩
 rcases he with rfl | rfl <;> exact hx
theorem retT1 {fn:Func} {r:ResultVar} {v:Value} {R:Value→Blocks→Prop} (M:Blocks) (hr:fn.results=#[r]) (h:Has P F L r v) (hM:∀ w,St w0 w L→St w0 w M) (hR:R v M):X w0.inn n (bodyPost P fn (Turns w0 R)) F L .ret:=λa w ha hw=>by
 refine bodyPost_ret (v:=v) ?_ ha.1 ⟨v,M,rfl,hR,hM w hw.out⟩
 rcases Res.run h ha hw with ⟨t,rfl,e1⟩ | ⟨t,ty,ad,rfl,e1,e2⟩ <;> simp [results,Result.andThen, *]
theorem retT2 {fn:Func} {r s:ResultVar} {v u:Value} {R:Value→Blocks→Prop} (M:Blocks) (hr:fn.results=#[r,s]) (h:Has P F L r v) (k:Has P F L s u) (hM:∀ w,St w0 w L→St w0 w M) (hR:R (.tuple #[v,u]) M):X w0.inn n (bodyPost P fn (Turns w0 R)) F L .ret:=λa w ha hw=>by
 refine bodyPost_ret (v:=.tuple #[v,u]) ?_ ha.1 ⟨_,M,rfl,hR,hM w hw.out⟩
 rcases Res.run h ha hw with ⟨t,rfl,e1⟩ | ⟨t,ty,ad,rfl,e1,e2⟩ <;> rcases Res.run k ha hw with ⟨t',rfl,f1⟩ | ⟨t',ty',ad',rfl,f1,f2⟩ <;> simp [results,Result.andThen, *]
end
end Sy
end
section
namespace Sy
open Go.RowKit
theorem St.swap {w0:Base} {w:World} {L:Blocks} {x y:Nat×TypeId×Array Value} (h:St w0 w (L++[y]++[x])):St w0 w (L++[x]++[y]):=by
 have hp:(L++[y]++[x]).Perm (L++[x]++[y]):=by
  rw [List.append_assoc,List.append_assoc]
  exact List.Perm.append_left L (List.Perm.swap x y [])
 exact ⟨h.below,λg t cs hm=>h.blk g t cs (hp.symm.subset hm),(hp.map (·.1)).nodup h.apart,h.size,h.non⟩
theorem Fr.swap {ds:List Deferred} {a:Act} {n:Nat} {F:Slots} {i j:Nat} {u v:Value} (hij:(i == j)=false) (h:Fr ds a n ((i,u)::(j,v)::F)):Fr ds a n ((j,v)::(i,u)::F):=h.less λk x hk=>by
 have hne:i≠j:=by simpa using hij
 simp only [List.lookup_cons] at hk ⊢
 by_cases e1:k=i
 ·subst e1
  have e2:(k == j)=false:=by simpa using hne
  rw [e2] at hk
  simpa using hk
 ·have e1':(k == i)=false:=by simpa using e1
  rw [e1'] at hk ⊢
  exact hk
section
variable {P:Program} {w0:Base} {n:Nat} {Q:Exit→Act→World→Prop} {F:Slots} {L:Blocks} {ops:Array Oper} {ex:Nat→Bool} {fuel:Nat} {listed:Array Bool}
theorem makeDuo (i j:Nat) {oi oj:Oper} (hi0:ops.toList[i]? = some oi) (hj0:ops.toList[j]? = some oj) (hr:Region.ready .any ops listed=[i,j]) (hri:Region.ready .any ops (listed.setIfInBounds i true)=[j]) (hrj:Region.ready .any ops (listed.setIfInBounds j true)=[i])
  (di dj:Nat) (hdi:oi.dst=some di) (hdj:oj.dst=some dj) (hne:(di == dj)=false) (hij:i≠j)
  (hgi:good ops n F oi=true) (hgj:good ops n F oj=true) (hgi':∀ v,good ops n (putF F (some dj) v) oi=true) (hgj':∀ v,good ops n (putF F (some di) v) oj=true)
  (ti tj:TypeId) (ci cj:Array Value) (vi vj:Nat→Value) (hmi:∀ F',Makes P F' oi ti ci vi) (hmj:∀ F',Makes P F' oj tj cj vj)
  (h:∀ gi gj,wpD P w0 n ops Q ex ((dj,vj gj)::(di,vi gi)::F) (L++[(gi,ti,ci)]++[(gj,tj,cj)]) fuel ((listed.setIfInBounds i true).setIfInBounds j true)):wpD P w0 n ops Q ex F L (fuel+1+1) listed:=λa w ha hw=>by
 have fi:fits n (some di)=true:=hdi ▸ (good_spec hgi).2.2.1
 have fj:fits n (some dj)=true:=hdj ▸ (good_spec hgj).2.2.1
 refine wpAnyG_duo i j hi0 hj0 hr (ha.wanted (good_spec hgi).1) (ha.wanted (good_spec hgj).1) (λw1 h1 K hK=>?_) (λw1 h1 K hK=>?_)
 ·unfold Oper.wp
  rw [good_exec hgi ha,hmi F w1]
  refine hK _ _ (λ_=>gr_alloc w1 _) ?_
  rw [hdi]
  have ha1:=ha.put fi (vi w1.heap.size)
  have hw1:=(hw.gr h1).add (gr_alloc w1 (.cells ci ti)) (Nat.le_refl _) (Blk.new w1 ti ci)
  refine wpAnyG_sole j hj0 hri (ha1.wanted (good_spec (hgj' _)).1) (λw2 h2 K2 hK2=>?_)
  unfold Oper.wp
  rw [good_exec (hgj' _) ha1,hmj _ w2]
  refine hK2 _ _ (λ_=>gr_alloc w2 _) ?_
  rw [hdj]
  exact h w1.heap.size w2.heap.size _ _ (ha1.put fj _) ((hw1.gr h2).add (gr_alloc w2 (.cells cj tj)) (Nat.le_refl _) (Blk.new w2 tj cj))
 ·unfold Oper.wp
  rw [good_exec hgj ha,hmj F w1]
  refine hK _ _ (λ_=>gr_alloc w1 _) ?_
  rw [hdj]
  have ha1:=ha.put fj (vj w1.heap.size)
  have hw1:=(hw.gr h1).add (gr_alloc w1 (.cells cj tj)) (Nat.le_refl _) (Blk.new w1 tj cj)
  refine wpAnyG_sole i hi0 hrj (ha1.wanted (good_spec (hgi' _)).1) (λw2 h2 K2 hK2=>?_)
  unfold Oper.wp
  rw [good_exec (hgi' _) ha1,hmi _ w2]
  refine hK2 _ _ (λ_=>gr_alloc w2 _) ?_
  rw [hdi,Array.setIfInBounds_comm _ _ (Ne.symm hij)]
  exact h w2.heap.size w1.heap.size _ _ (Fr.swap hne (ha1.put fi _)) (St.swap ((hw1.gr h2).add (gr_alloc w2 (.cells ci ti)) (Nat.le_refl _) (Blk.new w2 ti ci)))
def wpO (P:Program) (w0:Base) (n:Nat) (ops:Array Oper) (Q:Exit→Act→World→Prop) (ex:Nat→Bool) (F:Slots) (L:Blocks) (fuel:Nat) (listed:Array Bool) (i:Nat):Prop :=
 ∃ oi,ops[i]? = some oi∧wantedF ops F oi=some true∧∀ a w,Fr w0.ds a n F→St w0 w L→∀ w1,Gr w w1→∀ K:Act→World→Prop,(∀ a' w',(ex i=false→Gr w1 w')→wpAnyG P .any ops Q ex fuel (listed.setIfInBounds i true) a' w'→K a' w')→oi.wp P a w1 K Q
theorem anyOf (l:List Nat) (hr:Region.ready .any ops listed=l) (hl:l≠[]) (h:∀ i∈l,wpO P w0 n ops Q ex F L fuel listed i):wpD P w0 n ops Q ex F L (fuel+1) listed:=λa w ha hw w1 hw1 =>
 ⟨λh0=>(hl (hr.symm.trans h0)).elim,λm hm=>by
  rw [hr] at hm
  obtain ⟨oi,ho,hg,hk⟩:=h m hm
  refine wpOp_step ho (λK' hK=>?_)
  rw [if_pos (ha.wanted hg)]
  exact hk a w ha hw w1 hw1 K' (λa' w' h1 h2=>hK a' w' ⟨h1,h2⟩)⟩
theorem each2 {p:Nat→Prop} {i j:Nat} (hi:p i) (hj:p j):∀ k∈[i,j],p k:=λk hk=>by
 simp only [List.mem_cons,List.not_mem_nil,or_false] at hk
 rcases hk with rfl | rfl <;> assumption
theorem each1 {p:Nat→Prop} {i:Nat} (hi:p i):∀ k∈[i],p k:=λk hk=>by rw [List.mem_singleton.1 hk]; exact hi
theorem oneQuiet {i:Nat} {oi:Oper} (hi0:ops.toList[i]? = some oi) (hg:good ops n F oi=true) (v:Value) (hq:Quiet P w0 F L oi v) (h:wpD P w0 n ops Q ex (putF F oi.dst v) L fuel (listed.setIfInBounds i true)):wpO P w0 n ops Q ex F L fuel listed i :=
 ⟨oi,by simpa using hi0,(good_spec hg).1,λa w ha hw w1 h1 K hK=>by
  have hw1:=hw.gr h1
  have h0:=hq w1 hw1
  unfold Gives at h0
  unfold Oper.wp
  rw [good_exec hg ha]
  have last:∀ w2,Gr w1 w2→wpAnyG P .any ops Q ex fuel (listed.setIfInBounds i true) (a.put oi.dst v) w2:=λw2 h2=>h _ _ (ha.put (good_spec hg).2.2.1 v) (hw1.gr h2)
  generalize (execOp (evF F) oi).run P w1=r at *
  cases r with
  | ok x w' =>
   cases x <;> simp only [Oper.upon] at h0 ⊢
   case value u=>rw [h0.1]; exact hK _ _ (λ_=>h0.2) (last _ h0.2)
   case skip=>rw [← h0.1]; exact hK _ _ (λ_=>h0.2) (last _ h0.2)
   case enter f args =>
    refine Calls.mono h0 λe w'' he=>?_
    rw [he.1]
    exact hK _ _ (λ_=>he.2) (last _ he.2)
  | halt x w'=>cases x <;> exact h0.elim⟩
theorem oneMake {i:Nat} {oi:Oper} (hi0:ops.toList[i]? = some oi) (hg:good ops n F oi=true) (t:TypeId) (cs:Array Value) (val:Nat→Value) (hm:Makes P F oi t cs val) (h:∀ g,wpD P w0 n ops Q ex (putF F oi.dst (val g)) (L++[(g,t,cs)]) fuel (listed.setIfInBounds i true)):wpO P w0 n ops Q ex F L fuel listed i :=
 ⟨oi,by simpa using hi0,(good_spec hg).1,λa w ha hw w1 h1 K hK=>by
  unfold Oper.wp
  rw [good_exec hg ha,hm w1]
  exact hK _ _ (λ_=>gr_alloc w1 _) (h w1.heap.size _ _ (ha.put (good_spec hg).2.2.1 _) ((hw.gr h1).add (gr_alloc w1 _) (Nat.le_refl _) (Blk.new w1 t cs)))⟩
theorem oneWrite {i:Nat} {oi:Oper} (hi0:ops.toList[i]? = some oi) (hex:ex i=true) (hg:good ops n F oi=true) (b g:Nat) (t:TypeId) (cs cs':Array Value) (hL:L[b]? = some (g,t,cs)) (hm:Writes P F oi g t cs cs') (h:wpD P w0 n ops Q ex (putF F oi.dst undef) (L.set b (g,t,cs')) fuel (listed.setIfInBounds i true)):wpO P w0 n ops Q ex F L fuel listed i :=
 ⟨oi,by simpa using hi0,(good_spec hg).1,λa w ha hw w1 h1 K hK=>by
  obtain ⟨w',e1,e2,e3⟩:=hm w1 ((hw.gr h1).get hL)
  unfold Oper.wp
  rw [good_exec hg ha,e1]
  exact hK _ _ (λe=>by rw [hex] at e; cases e) (h _ _ (ha.put (good_spec hg).2.2.1 _) ((hw.gr h1).set hL e2 e3))⟩
theorem joinD (FF:(Nat→Nat)→Slots) (LL:(Nat→Nat)→Blocks) (fu:Nat) (li:Array Bool) {fuel':Nat} (h:∀ g,wpD P w0 n ops Q ex (FF g) (LL g) fu li) (k:(∀ g,wpD P w0 n ops Q ex (FF g) (LL g) fu li)→wpD P w0 n ops Q ex F L fuel' listed):wpD P w0 n ops Q ex F L fuel' listed:=k h
theorem leafI {FF:(Nat→Nat)→Slots} {LL:(Nat→Nat)→Blocks} {li:Array Bool} (h:∀ g,wpD P w0 n ops Q ex (FF g) (LL g) fuel li) (g:Nat→Nat) (hl:listed=li) (hF:∀ p∈FF g,F.lookup p.1=some p.2) (hL:L=LL g):wpD P w0 n ops Q ex F L fuel listed:=λa w ha hw=>by
 subst hl hL
 exact h g a w (ha.all hF) hw
theorem leafS {FF:(Nat→Nat)→Slots} {LL:(Nat→Nat)→Blocks} {li:Array Bool} {M:Blocks} {x y:Nat×TypeId×Array Value} (h:∀ g,wpD P w0 n ops Q ex (FF g) (LL g) fuel li) (g:Nat→Nat) (hl:listed=li) (hF:∀ p∈FF g,F.lookup p.1=some p.2) (hL:L=M++[y]++[x]) (hM:M++[x]++[y]=LL g):wpD P w0 n ops Q ex F L fuel listed:=λa w ha hw=>by
 subst hl hL
 have h2:=h g a w (ha.all hF)
 rw [← hM] at h2
 exact h2 (St.swap hw)
end
end Sy
end
section
namespace Sy
open Go.RowKit
theorem St.perm {w0:Base} {w:World} {L M:Blocks} (h:St w0 w L) (p:L.Perm M):St w0 w M :=
 ⟨h.below,λg t cs hm=>h.blk g t cs (p.mem_iff.2 hm),(p.map _).nodup_iff.1 h.apart,h.size,h.non⟩
theorem perm_at {α:Type _} {l m:List α} (is:List Nat) (hi:is.isPerm (List.range l.length)=true) (hm:is.map (λi=>l[i]?)=m.map some):l.Perm m:=by
 have h1:(is.map (λi=>l[i]?)).Perm ((List.range l.length).map (λi=>l[i]?)):=(List.isPerm_iff.1 hi).map _
 have h2:(List.range l.length).map (λi=>l[i]?)=l.map some:=by
  refine List.ext_getElem (by simp) λi h _=>?_
  simp only [List.getElem_map,List.getElem_range]
  exact List.getElem?_eq_getElem (by simpa using h)
 rw [hm,h2] at h1
 have h3:=h1.filterMap id
 simpa [List.filterMap_map] using h3.symm
section
variable {P:Program} {w0:Base} {n:Nat} {Q:Exit→Act→World→Prop} {F:Slots} {L:Blocks} {ops:Array Oper} {ex:Nat→Bool} {fuel:Nat} {listed:Array Bool}
theorem oneCallN {i:Nat} {oi:Oper} (hi0:ops.toList[i]? = some oi) (hg:good ops n F oi=true) (f:FuncId) (args:Array Value) (he:∀ w,(execOp (evF F) oi).run P w=.ok (.enter f args) w) (R:Value→Blocks→Prop)
  (hc:∀ w,St w0 w L→Calls P f args w (GetsN w R)) (h:∀ v M,R v M→wpD P w0 n ops Q ex (putF F oi.dst v) (L++M) fuel (listed.setIfInBounds i true)):wpO P w0 n ops Q ex F L fuel listed i :=
 ⟨oi,by simpa using hi0,(good_spec hg).1,λa w ha hw w1 h1 K hK=>by
  unfold Oper.wp
  rw [good_exec hg ha,he w1]
  refine Calls.mono (hc w1 (hw.gr h1)) λe w' he'=>?_
  obtain ⟨v,M,rfl,hR,hb,hM,hn⟩:=he'
  exact hK _ _ (λ_=>hb) (h v M hR _ _ (ha.put (good_spec hg).2.2.1 v) ((hw.gr h1).addN hb hM hn))⟩
theorem joinG {T:Type} (FF:T→Slots) (LL:T→Blocks) (H:T→Prop) (fu:Nat) (li:Array Bool) {fuel':Nat} (h:∀ x,H x→wpD P w0 n ops Q ex (FF x) (LL x) fu li) (k:(∀ x,H x→wpD P w0 n ops Q ex (FF x) (LL x) fu li)→wpD P w0 n ops Q ex F L fuel' listed):wpD P w0 n ops Q ex F L fuel' listed:=k h
end
end Sy
end
section
namespace Sy
open Go.RowKit
section
variable {P:Program} {w0 fz0:World} {n:Nat} {Q:Exit→Act→World→Prop} {F:Slots} {L:Blocks}
variable {ops:Array Oper} {o:Oper} {rest:List Oper}
end
end Sy
end
end Go.Proofs.YtgggdbjakcpanabGreatDoor
