/-
  Texts of ours, put together: SymE, RowZ, FoldZ, RefFold, RefAdd, MulZ, RefMul, PowZ, RefPow, NumB, FeOwn, RefBytes, CrvC, CrvO, ScSpec, ScLow, FeB32, FeRead, RefSqrt, RootNum, CrvD, CrvP, CrvQ, EcW, CrvR, SymF, SymG, CrvS, CrvT, CrvU, ScRefN, CrvV, CrvW, CrvX, PLiftL, PLift3, CurveAlive, CrvF, CrvG, CrvH, CurveBackL.
-/
import Derived.Test.YtmennpefjofhjaaGreatDoorBD2
set_option linter.unusedVariables false
set_option linter.unusedSimpArgs false
namespace Go.Proofs.YtmennpefjofhjaaGreatDoor
section
namespace Sy
open Go.RowKit
theorem setAll_is:∀ (vs:List Value) (o:Nat) (cs:Array Value),o+vs.length≤cs.size→setAll cs o vs=(cs.toList.take o++(vs++cs.toList.drop (o+vs.length))).toArray
 | [],o,cs,_=>by simp [setAll,List.take_append_drop]
 | v::r,o,cs,h=>by
  simp only [List.length_cons] at h
  rw [setAll,setAll_is r (o+1) _ (by simp; omega)]
  congr 1
  have hlt:o<cs.toList.length:=by simp; omega
  rw [Array.toList_setIfInBounds,List.take_set,List.take_add_one,List.drop_set_of_lt (by omega),List.getElem?_eq_getElem hlt,List.set_append_right _ _ (by simp; omega)]
  have e:o+1+r.length=o+(r.length+1):=by omega
  simp [Nat.min_eq_left (Nat.le_of_lt (show o<cs.size by omega)),e]
def flat (f:Nat→List Value) (n:Nat):List Value:=(List.range n).flatMap f
section
variable {s:Nat} {f:Nat→List Value}
theorem flat_succ (n:Nat):flat f (n+1)=flat f n++f n:=by simp [flat,List.range_succ]
theorem flat_len (h:∀ k,(f k).length=s):∀ n,(flat f n).length=n*s
 | 0=>by simp [flat]
 | n+1=>by rw [flat_succ,List.length_append,flat_len h n,h,Nat.succ_mul]
theorem flat_add (k:Nat):∀ m,flat f (k+m)=flat f k++flat (λj=>f (k+j)) m
 | 0=>by simp [flat]
 | m+1=>by rw [← Nat.add_assoc,flat_succ,flat_add k m,flat_succ,List.append_assoc]
theorem flat_split {n k:Nat} (hk:k<n):flat f n=flat f k++(f k++flat (λj=>f (k+1+j)) (n - k - 1)):=by
 obtain ⟨m,rfl⟩:∃ m,n=k+1+m:=⟨n - k - 1,by omega⟩
 rw [flat_add,flat_succ,List.append_assoc,show k+1+m - k - 1=m by omega]
theorem flat_congr {g:Nat→List Value} {n:Nat} (h:∀ k,k<n→f k=g k):flat f n=flat g n:=by
 unfold flat
 rw [List.flatMap_def,List.flatMap_def]
 exact congrArg List.flatten (List.map_congr_left λk hk=>h k (List.mem_range.1 hk))
theorem flat_at (h:∀ k,(f k).length=s) {n k o:Nat} (hk:k<n) (ho:o=k*s):((flat f n).drop o).take s=f k:=by
 subst ho
 rw [flat_split hk,List.drop_append_of_le_length (by rw [flat_len h]; exact Nat.le_refl _),List.drop_eq_nil_of_le (by rw [flat_len h]; exact Nat.le_refl _),List.nil_append,List.take_append_of_le_length (by rw [h]; exact Nat.le_refl _),List.take_of_length_le (by rw [h]; exact Nat.le_refl _)]
theorem flat_in (h:∀ k,(f k).length=s) {n k o e m:Nat} (hk:k<n) (ho:o=k*s+e) (hm:e+m≤s):((flat f n).drop o).take m=((f k).drop e).take m:=by
 subst ho
 rw [← flat_at h hk rfl,List.drop_take,List.drop_drop,List.take_take,Nat.min_eq_left (by omega)]
theorem flat_set (h:∀ k,(f k).length=s) {v:List Value} (hv:v.length=s) {n k o:Nat} (hk:k<n) (ho:o=k*s):setAll (flat f n).toArray o v=(flat (λj=>if j=k then v else f j) n).toArray:=by
 subst ho
 have hl:=flat_len h (f:=f)
 have hks:k*s+s≤n*s:=by rw [← Nat.succ_mul]; exact Nat.mul_le_mul_right s hk
 rw [setAll_is _ _ _ (by simp [hl,hv]; exact hks)]
 congr 1
 rw [flat_split hk,flat_split (f:=λj=>if j=k then v else f j) hk]
 congr 1
 ·show (flat f k++_).take (k*s)=_
  rw [List.take_append_of_le_length (by rw [hl]; exact Nat.le_refl _),List.take_of_length_le (by rw [hl]; exact Nat.le_refl _)]
  exact flat_congr λj hj=>by rw [if_neg (by omega)]
 ·simp only [if_true]
  congr 1
  show (flat f k++(f k++_)).drop (k*s+v.length)=_
  rw [← List.append_assoc,List.drop_append_of_le_length (by rw [List.length_append,hl,h,hv]; exact Nat.le_refl _),List.drop_eq_nil_of_le (by rw [List.length_append,hl,h,hv]; exact Nat.le_refl _),List.nil_append]
  exact flat_congr λj hj=>by rw [if_neg (by omega)]
theorem flat_one (h:∀ k,(f k).length=s) (n:Nat) (hf:∀ k, ∀ u∈f k,u.oneCell'=true):(flat f n).toArray.all (·.oneCell')=true:=by
 rw [List.all_toArray,List.all_eq_true]
 intro u hu
 unfold flat at hu
 obtain ⟨k,_,hk⟩:=List.mem_flatMap.1 hu
 exact hf k u hk
theorem flat_set1 {f:Nat→Value} {n k:Nat} (hk:k<n) (v:Value):(flat (λj=>[f j]) n).toArray.setIfInBounds k v=(flat (λj=>[if j=k then v else f j]) n).toArray:=by
 have h:=flat_set (s:=1) (f:=λj=>[f j]) (v:=[v]) (λ_=>rfl) rfl hk (Nat.mul_one k).symm
 simp only [setAll] at h
 rw [h]
 congr 1
 exact flat_congr λj _=>by by_cases e:j=k <;> simp [e]
theorem flat_get1 {f:Nat→Value} {n k:Nat} (hk:k<n):(flat (λj=>[f j]) n).toArray[k]? = some (f k):=by
 have h:=flat_at (s:=1) (f:=λj=>[f j]) (λ_=>rfl) hk (Nat.mul_one k).symm
 rw [List.getElem?_toArray]
 have h2:=congrArg (·[0]?) h
 simpa [List.getElem?_take,List.getElem?_drop] using h2
theorem flat_size1 {f:Nat→Value} {n:Nat}:(flat (λj=>[f j]) n).toArray.size=n:=by
 have:=flat_len (s:=1) (f:=λj=>[f j]) (λ_=>rfl) n
 simpa using this
theorem flat_const (c:List Value) (hc:c.length=s) (hs:0<s) (n:Nat) (z:Array Value) (hz:z.toList=c):(flat (λ_=>c) n).toArray=madeCells z (n*s):=by
 have hzs:z.size=s:=by rw [← Array.length_toList,hz,hc]
 apply Array.ext'
 unfold madeCells
 apply List.ext_getElem?
 intro i
 rw [Array.toList_map,Array.toList_range,List.getElem?_map]
 by_cases hi:i<n*s
 ·have hk:i / s<n:=Nat.div_lt_of_lt_mul (by rw [Nat.mul_comm]; exact hi)
  have h:=flat_in (s:=s) (f:=λ_=>c) (λ_=>hc) (n:=n) (k:=i / s) (o:=i) (e:=i%s) (m:=1) hk (by rw [Nat.mul_comm]; exact (Nat.div_add_mod i s).symm) (Nat.mod_lt _ hs)
  have h2:=congrArg (·[0]?) h
  simp only [List.getElem?_take,List.getElem?_drop,Nat.zero_lt_one,if_true,Nat.add_zero] at h2
  rw [h2,List.getElem?_range hi]
  have hm:i%s<s:=Nat.mod_lt _ hs
  simp only [Option.map_some,hzs]
  rw [← hz]
  simp [hzs,hm]
 ·rw [List.getElem?_eq_none (by rw [flat_len (s:=s) (λ_=>hc)]; omega),List.getElem?_eq_none (by simp; omega)]
  rfl
end
def upto (k:Nat) (A:Nat→List Value) (z:List Value) (j:Nat):List Value:=if j<k then A j else z
section
variable {s n k:Nat} {A:Nat→List Value} {z:List Value}
theorem upto_len (hA:∀ j,(A j).length=s) (hz:z.length=s) (k:Nat):∀ j,(upto k A z j).length=s:=λj=>by
 unfold upto
 split
 ·exact hA j
 ·exact hz
theorem upto_lt {j:Nat} (h:j<k):upto k A z j=A j:=if_pos h
theorem upto_one (hA:∀ j, ∀ u∈A j,u.oneCell'=true) (hz:∀ u∈z,u.oneCell'=true) (k:Nat):∀ j, ∀ u∈upto k A z j,u.oneCell'=true:=λj u hu=>by
 unfold upto at hu
 split at hu
 ·exact hA j u hu
 ·exact hz u hu
theorem upto_zero:(flat (λ_=>z) n).toArray=(flat (upto 0 A z) n).toArray:=congrArg List.toArray (flat_congr λj _=>by unfold upto; rw [if_neg (by omega)])
theorem upto_all:(flat (upto n A z) n).toArray=(flat A n).toArray:=congrArg List.toArray (flat_congr λj hj=>upto_lt hj)
theorem upto_set (hA:∀ j,(A j).length=s) (hz:z.length=s) {v:List Value} (hv:A k=v) (hk:k<n) {o:Nat} (ho:o=k*s):setAll (flat (upto k A z) n).toArray o v=(flat (upto (k+1) A z) n).toArray:=by
 rw [flat_set (upto_len hA hz k) (by rw [← hv]; exact hA k) hk ho]
 refine congrArg List.toArray (flat_congr λj _=>?_)
 unfold upto
 by_cases e:j=k
 ·subst e
  rw [if_pos rfl,if_pos (by omega),hv]
 ·rw [if_neg e]
  by_cases h:j<k
  ·rw [if_pos h,if_pos (by omega)]
  ·rw [if_neg h,if_neg (by omega)]
theorem upto_set1 (hA:∀ j,(A j).length=1) {u v:Value} (hv:A k=[v]) (hk:k<n):(flat (upto k A [u]) n).toArray.setIfInBounds k v=(flat (upto (k+1) A [u]) n).toArray:=by
 have h:=upto_set (s:=1) (z:=[u]) hA rfl hv hk (Nat.mul_one k).symm
 simpa only [setAll] using h
theorem flat_load {f:Nat→List Value} (h:∀ j,(f j).length=s) (hk:k<n) {o:Nat} (ho:o=k*s):Value.agg (((flat f n).toArray.toList.drop o).take s).toArray=.agg (f k).toArray:=by
 rw [show (flat f n).toArray.toList=flat f n from rfl,flat_at h hk ho]
theorem flat_fit {f:Nat→List Value} (h:∀ j,(f j).length=s) (hk:k<n) {o:Nat} (ho:o=k*s):o+s≤(flat f n).toArray.size:=by
 have hks:k*s+s≤n*s:=by rw [← Nat.succ_mul]; exact Nat.mul_le_mul_right s hk
 rw [List.size_toArray,flat_len h]
 omega
end
section
variable {s n m:Nat} {f:Nat→List Value}
theorem flat_whole (h:∀ j,(f j).length=s) (hm:n*s=m):Value.agg (((flat f n).toArray.toList.drop 0).take m).toArray=.agg (flat f n).toArray:=by
 rw [show (flat f n).toArray.toList=flat f n from rfl,List.drop_zero,List.take_of_length_le (by rw [flat_len h,hm]; exact Nat.le_refl _)]
theorem flat_wsize (h:∀ j,(f j).length=s) (hm:n*s=m):0+m≤(flat f n).toArray.size:=by
 rw [List.size_toArray,flat_len h]; omega
theorem flat_info (h:∀ j,(f j).length=s) {x:Option Nat} (hx:x=some (n*s)):x=some (flat f n).toArray.size:=by
 rw [hx,List.size_toArray,flat_len h]
theorem flat_over (h:∀ j,(f j).length=s) (hm:n*s=m) {cs:Array Value} (hc:cs.size=m):0+(flat f n).toArray.size≤cs.size:=by
 rw [List.size_toArray,flat_len h]; omega
theorem flat_put (h:∀ j,(f j).length=s) {cs:Array Value} (hc:cs.size=n*s):setAll cs 0 (flat f n).toArray.toList=(flat f n).toArray:=by
 have hl:(flat f n).toArray.toList.length=cs.size:=by
  rw [hc]
  exact flat_len h n
 rw [setAll_is _ _ _ (by omega),List.take_zero,List.drop_eq_nil_of_le (by rw [Array.length_toList]; omega)]
 simp
theorem flat_lt1 (h:∀ j,(f j).length=1) {k o:Nat} (hk:k<n) (ho:o=k*1):o<(flat f n).toArray.size:=by
 rw [List.size_toArray,flat_len h]; omega
end
section
variable {P:Program} {w0:Base} {n:Nat} {Q:Exit→Act→World→Prop} {F:Slots} {L:Blocks} {ops:Array Oper} {o:Oper} {l:List Oper}
theorem blk_range {w:World} {g:Nat} {t:TypeId} {cs:Array Value} (h:Blk w g t cs) {o:Nat} {vs:List Value} (e:(cs.toList.drop o).take vs.length=vs):w.rangeAt g o vs:=λj v hj=>by
 rw [h.cell]
 rw [← e] at hj
 have hlt:j<vs.length:=by
  have h:=(List.getElem?_eq_some_iff.1 hj).1
  rw [List.length_take] at h
  exact Nat.lt_of_lt_of_le h (Nat.min_le_left _ _)
 rw [List.getElem?_take_of_lt hlt,List.getElem?_drop] at hj
 simpa using hj
theorem range_left {w:World} {g o:Nat} {a b:List Value} (h:w.rangeAt g o (a++b)):w.rangeAt g o a:=λj v hj=>h j v (by rw [List.getElem?_append_left (List.getElem?_eq_some_iff.1 hj).1]; exact hj)
theorem range_right {w:World} {g o n:Nat} {a b:List Value} (h:w.rangeAt g o (a++b)) (hn:a.length=n):w.rangeAt g (o+n) b:=λj v hj=>by
 rw [Nat.add_assoc]
 refine h (n+j) v ?_
 rw [List.getElem?_append_right (by omega),show n+j - a.length=j by omega]
 exact hj
theorem range_flat {w:World} {g o n s k:Nat} {f:Nat→List Value} (h:w.rangeAt g o (flat f n)) (hs:∀ j,(f j).length=s) (hk:k<n):w.rangeAt g (o+k*s) (f k):=λj v hj=>by
 rw [Nat.add_assoc]
 refine h (k*s+j) v ?_
 have e:=flat_at hs hk rfl
 rw [← e] at hj
 have hlt:j<s:=by
  have h:=(List.getElem?_eq_some_iff.1 hj).1
  rw [List.length_take] at h
  exact Nat.lt_of_lt_of_le h (Nat.min_le_left _ _)
 rw [List.getElem?_take_of_lt hlt,List.getElem?_drop] at hj
 exact hj
theorem exec_int (op:BinOp) (t:TypeId) (x y:Operand) {yt:TypeId} (k:IntKind) {k':IntKind} (a b:Int) (v:Value) (ho:o.op=.binOp op t x y yt) (hx:evF F x=.int k a) (hy:evF F y=.int k' b) (h:∀ w,(binOp op t (.int k a) (.int k' b)).run P w=.ok v w) (w:World) :
  (execOp (evF F) o).run P w=.ok (.value v) w:=by
 have h1:(eqGuard op t x y (.int k a) (.int k' b)).run P w=.ok () w:=by
  unfold eqGuard
  cases op <;> rfl
 unfold execOp
 simp only [ho,hx,hy,Sem.run_bind,h1,h w,Result.andThen_ok,Sem.run_pure]
theorem wrap_i64 {z:Int} (h0 : -9223372036854775808≤z) (h1:z<9223372036854775808):IntKind.i64.wrap z=z:=by
 unfold IntKind.wrap; simp [IntKind.bits,IntKind.signed]; omega
theorem wrap_u8 {z:Int} (h0:0≤z) (h1:z<256):IntKind.u8.wrap z=z:=by
 unfold IntKind.wrap; simp [IntKind.bits,IntKind.signed]; omega
theorem int_add (t:TypeId) (k:IntKind) (a b c:Int) (h:k.wrap (a+b)=c) (w:World):(binOp .add t (.int k a) (.int k b)).run P w=.ok (.int k c) w:=by simp [binOp,Op.intArith,h]
theorem int_sub (t:TypeId) (k:IntKind) (a b c:Int) (h:k.wrap (a - b)=c) (w:World):(binOp .sub t (.int k a) (.int k b)).run P w=.ok (.int k c) w:=by simp [binOp,Op.intArith,h]
theorem int_mul (t:TypeId) (k:IntKind) (a b c:Int) (h:k.wrap (a*b)=c) (w:World):(binOp .mul t (.int k a) (.int k b)).run P w=.ok (.int k c) w:=by simp [binOp,Op.intArith,h]
theorem int_and (t:TypeId) (k:IntKind) (a b c:Int) (h:k.wrap ((BitVec.ofInt k.bits a &&& BitVec.ofInt k.bits b).toNat:Int)=c) (w:World):(binOp .and t (.int k a) (.int k b)).run P w=.ok (.int k c) w:=by
 simp only [binOp,ne_eq,not_true_eq_false,if_false,Op.intBits,Sem.run_pure]
 rw [h]
theorem int_shr (t:TypeId) (k k':IntKind) (a b c:Int) (hb:¬ b<0) (h:a.fdiv (2 ^ min b.toNat k.bits)=c) (w:World):(binOp .shr t (.int k a) (.int k' b)).run P w=.ok (.int k c) w:=by
 simp only [binOp,Op.shift,if_neg hb,Sem.run_pure,h]
theorem int_lss (t:TypeId) (k:IntKind) (a b:Int) (c:Bool) (h:decide (a<b)=c) (w:World):(binOp .lss t (.int k a) (.int k b)).run P w=.ok (.bool c) w:=by simp [binOp,Op.intCmp, ← h]
theorem int_leq (t:TypeId) (k:IntKind) (a b:Int) (c:Bool) (h:decide (a≤b)=c) (w:World):(binOp .leq t (.int k a) (.int k b)).run P w=.ok (.bool c) w:=by simp [binOp,Op.intCmp, ← h]
theorem int_gtr (t:TypeId) (k:IntKind) (a b:Int) (c:Bool) (h:decide (a>b)=c) (w:World):(binOp .gtr t (.int k a) (.int k b)).run P w=.ok (.bool c) w:=by simp [binOp,Op.intCmp, ← h]
theorem int_geq (t:TypeId) (k:IntKind) (a b:Int) (c:Bool) (h:decide (a ≥ b)=c) (w:World):(binOp .geq t (.int k a) (.int k b)).run P w=.ok (.bool c) w:=by simp [binOp,Op.intCmp, ← h]
theorem int_eql (t:TypeId) (k:IntKind) (a b:Int) (c:Bool) (h:decide (a=b)=c) (w:World):(binOp .eql t (.int k a) (.int k b)).run P w=.ok (.bool c) w:=by
 simp only [binOp,ne_eq,not_true_eq_false,if_false,Op.intCmp,Sem.run_pure, ← h]
 rfl
theorem int_neq (t:TypeId) (k:IntKind) (a b:Int) (c:Bool) (h:decide (a≠b)=c) (w:World):(binOp .neq t (.int k a) (.int k b)).run P w=.ok (.bool c) w:=by
 simp only [binOp,ne_eq,not_true_eq_false,if_false,Op.intCmp,Sem.run_pure, ← h]
 by_cases e:a=b <;> simp [e]
theorem exec_at (t e:TypeId) (x kx:Operand) (g f len cap k s:Nat) (ki:IntKind) (ho:o.op=.indexAddr t x kx) (hx:evF F x=.slice (some ⟨g,f,none⟩) len cap) (hkx:evF F kx=.int ki (k:Int)) (ht:P.underlying t=some (.slice e)) (hsz:∀ w,(sizeOf e).run P w=.ok s w) (hk:k<len) (w:World) :
  (execOp (evF F) o).run P w=.ok (.value (.pointer (some ⟨g,f+k*s,none⟩))) w:=by
 have h0:(0:Int)≤k:=by omega
 have h1:((k:Int).toNat)=k:=by omega
 unfold execOp
 simp [ho,hx,hkx,Instr.indexAt,asIntOf,run_underlying ht,hsz,h0,hk,addr_off,Result.andThen]
theorem exec_atA (t e:TypeId) (x kx:Operand) (g f m k s:Nat) (ki:IntKind) (ho:o.op=.indexAddr t x kx) (hx:evF F x=.pointer (some ⟨g,f,none⟩)) (hkx:evF F kx=.int ki (k:Int)) (ht:P.underlying t=some (.array m e)) (hsz:∀ w,(sizeOf e).run P w=.ok s w) (hk:k<m) (w:World) :
  (execOp (evF F) o).run P w=.ok (.value (.pointer (some ⟨g,f+k*s,none⟩))) w:=by
 have h0:(0:Int)≤k:=by omega
 unfold execOp
 simp [ho,hx,hkx,Instr.indexAt,asIntOf,run_underlying ht,hsz,h0,hk,addr_off,Result.andThen,Instr.sureAddr]
theorem exec_sl1 (t:TypeId) (x lx:Operand) (g f len cap lo s:Nat) (kl:IntKind) (ho:o.op=.slice t x (some lx) none none) (hx:evF F x=.slice (some ⟨g,f,none⟩) len cap) (hl:evF F lx=.int kl (lo:Int)) (ht:P.underlying t=some (.slice (P.elem t))) (hsz:∀ w,(sizeOf (P.elem t)).run P w=.ok s w) (h1:lo≤len) (h2:lo<cap) (w:World) :
  (execOp (evF F) o).run P w=.ok (.value (.slice (some ⟨g,f+lo*s,none⟩) (len - lo) (cap - lo))) w:=by
 have hne:¬ cap=lo:=by omega
 have e:(Instr.sliceAt t (.slice (some ⟨g,f,none⟩) len cap) (some (.int kl (lo:Int))) none none).run P w=.ok (.slice (some ⟨g,f+lo*s,none⟩) (len - lo) (cap - lo)) w:=by
  rw [run_sliceAt_slice w t _ _ _ _ ht,run_slice_l w t (some ⟨g,f,none⟩) len cap ht kl lo (by omega) (by omega)]
  simp [hsz,sliced,hne,addr_off,Result.andThen]
 unfold execOp
 simp only [ho,hx,hl,Option.map_some,Option.map_none,e,Sem.run_bind,Sem.run_pure,Result.andThen_ok]
theorem exec_sl3 (t:TypeId) (x lx hx' mx':Operand) (g f len cap lo hi mx s:Nat) (kl kh km:IntKind) (ho:o.op=.slice t x (some lx) (some hx') (some mx')) (hx:evF F x=.slice (some ⟨g,f,none⟩) len cap) (hl:evF F lx=.int kl (lo:Int)) (hh:evF F hx'=.int kh (hi:Int)) (hm:evF F mx'=.int km (mx:Int)) (ht:P.underlying t=some (.slice (P.elem t))) (hsz:∀ w,(sizeOf (P.elem t)).run P w=.ok s w)
  (h1:lo≤hi) (h2:hi≤mx) (h3:mx≤cap) (h4:lo<mx) (w:World):(execOp (evF F) o).run P w=.ok (.value (.slice (some ⟨g,f+lo*s,none⟩) (hi - lo) (mx - lo))) w:=by
 have hne:¬ mx=lo:=by omega
 have e:(Instr.sliceAt t (.slice (some ⟨g,f,none⟩) len cap) (some (.int kl (lo:Int))) (some (.int kh (hi:Int))) (some (.int km (mx:Int)))).run P w=.ok (.slice (some ⟨g,f+lo*s,none⟩) (hi - lo) (mx - lo)) w:=by
  rw [run_sliceAt_slice w t _ _ _ _ ht,run_slice_lhm w t (some ⟨g,f,none⟩) len cap ht kl kh km lo hi mx (by omega) (by omega) (by omega) (by omega)]
  simp [hsz,sliced,hne,addr_off,Result.andThen]
 unfold execOp
 simp only [ho,hx,hl,hh,hm,Option.map_some,e,Sem.run_bind,Sem.run_pure,Result.andThen_ok]
theorem exec_min (x y:Operand) {ts:Array TypeId} (k:IntKind) (a b c:Nat) (ho:o.op=.call { callee:=.builtin .min,args:=#[x,y],argTypes:=ts }) (hx:evF F x=.int k (a:Int)) (hy:evF F y=.int k (b:Int)) (h:min a b=c) (w:World):(execOp (evF F) o).run P w=.ok (.value (.int k (c:Int))) w:=by
 have e:(if (b:Int)<(a:Int) then (b:Int) else (a:Int))=(c:Int):=by split <;> omega
 unfold execOp
 simp [ho,hx,hy,resolve,invoke,builtin,Builtin.min_,Builtin.min2,Sem.run_bind,Result.andThen]
 omega
theorem exec_idx (t e:TypeId) (x kx:Operand) (cs:Array Value) (m k:Nat) (ki:IntKind) (d:TypeDesc) (c:Value) (ho:o.op=.index t x kx) (hx:evF F x=.agg cs) (hkx:evF F kx=.int ki (k:Int)) (ht:P.underlying t=some (.array m e)) (he:P.underlying e=some d) (hd:d.isRow=false) (hsz:∀ w,(sizeOf e).run P w=.ok 1 w) (hk:k<m) (hc:cs[k]? = some c) (w:World) :
  (execOp (evF F) o).run P w=.ok (.value c) w:=by
 have h0:(0:Int)≤k:=by omega
 have ha:(isAgg e).run P w=.ok false w:=by
  cases d <;> first | (cases hd; done) | simp [isAgg,underlying,he]
 have pc:(part e cs ((k:Int).toNat*1)).run P w=.ok c w:=by
  simp [part,ha,hc,Result.andThen]
 unfold execOp
 simp only [ho,hx,hkx,Instr.index,asIntOf,Sem.run_bind,Sem.run_pure,Result.andThen_ok,run_underlying ht]
 rw [if_pos ⟨by omega,by omega⟩]
 simp only [Sem.run_bind,hsz,Result.andThen_ok,pc,Sem.run_pure]
def NextX {T:Type} (w0:Base) (n N:Nat) (FF:Nat→T→Slots) (LL:Nat→T→Blocks) (H:Nat→T→Prop) (k:Nat):Act→World→Prop:=λa w=>k<N∧∃ y,H (k+1) y∧Fr w0.ds a n (FF (k+1) y)∧St w0 w (LL (k+1) y)
theorem loopX {T:Type} {c:Code} (N:Nat) (FF:Nat→T→Slots) (LL:Nat→T→Blocks) (H:Nat→T→Prop) (x0:T) (m:List Bool) (h0:H 0 x0) (hF:∀ p∈FF 0 x0,F.lookup p.1=some p.2) (hL:sel L m=LL 0 x0)
  (hr:∀ k x,k≤N→H k x→wpC P w0 n (Exit.then (NextX w0 n N FF LL H k) Q) (FF k x) (LL k x) c):wpC P w0 n Q F L (.loop c) :=
 loopI N (λk a w=>∃ x,H k x∧Fr w0.ds a n (FF k x)∧St w0 w (LL k x)) (λ_ _ ha hw=>⟨x0,h0,ha.all hF,hL ▸ hw.less (sel_sub L m)⟩)
  λk hk a w ⟨x,hx,ha,hw⟩=>hr k x hk hx a w ha hw
theorem againX {T:Type} {N:Nat} {FF:Nat→T→Slots} {LL:Nat→T→Blocks} {H:Nat→T→Prop} {k:Nat} {R:Exit→Act→World→Prop} (y:T) (m:List Bool) (hk:k<N) (hy:H (k+1) y) (hF:∀ p∈FF (k+1) y,F.lookup p.1=some p.2) (hL:sel L m=LL (k+1) y) :
  X w0 n (Exit.then (NextX w0 n N FF LL H k) R) F L .normal:=λ_ _ ha hw=>⟨hk,y,hy,ha.all hF,hL ▸ hw.less (sel_sub L m)⟩
def NextK (w0:Base) (n N:Nat) (FF:Nat→Slots) (LL:Nat→Blocks) (k:Nat):Act→World→Prop:=λa w=>k<N∧Fr w0.ds a n (FF (k+1))∧St w0 w (LL (k+1))
theorem loopK {c:Code} (N:Nat) (FF:Nat→Slots) (LL:Nat→Blocks) (m:List Bool) {M:Blocks} (hF:∀ p∈FF 0,F.lookup p.1=some p.2) (hL:sel L m=M) (hM:M=LL 0)
  (hr:∀ k,k≤N→wpC P w0 n (Exit.then (NextK w0 n N FF LL k) Q) (FF k) (LL k) c):wpC P w0 n Q F L (.loop c) :=
 loopI N (λk a w=>Fr w0.ds a n (FF k)∧St w0 w (LL k)) (λ_ _ ha hw=>⟨ha.all hF,hM ▸ hL ▸ hw.less (sel_sub L m)⟩)
  λk hk a w ⟨ha,hw⟩=>hr k hk a w ha hw
theorem againK {N:Nat} {FF:Nat→Slots} {LL:Nat→Blocks} {k:Nat} {R:Exit→Act→World→Prop} (m:List Bool) {M:Blocks} (hk:k<N) (hF:∀ p∈FF (k+1),F.lookup p.1=some p.2) (hL:sel L m=M) (hM:M=LL (k+1)) :
  X w0 n (Exit.then (NextK w0 n N FF LL k) R) F L .normal:=λ_ _ ha hw=>⟨hk,ha.all hF,hM ▸ hL ▸ hw.less (sel_sub L m)⟩
theorem bcons {x y:Nat×TypeId×Array Value} {l m:Blocks} (h:x=y) (k:l=m):x::l=y::m:=by rw [h,k]
theorem beq {g:Nat} {t:TypeId} {a b:Array Value} (h:a=b):(g,t,a)=(g,t,b):=by rw [h]
def NextH (w0:Base) (n N:Nat) (H:Nat→Prop) (FF:Nat→Slots) (LL:Nat→Blocks) (k:Nat):Act→World→Prop:=λa w=>k<N∧H (k+1)∧Fr w0.ds a n (FF (k+1))∧St w0 w (LL (k+1))
theorem loopH {c:Code} (N:Nat) (H:Nat→Prop) (FF:Nat→Slots) (LL:Nat→Blocks) (m:List Bool) {M:Blocks} (h0:H 0) (hF:∀ p∈FF 0,F.lookup p.1=some p.2) (hL:sel L m=M) (hM:M=LL 0)
  (hr:∀ k,k≤N→H k→wpC P w0 n (Exit.then (NextH w0 n N H FF LL k) Q) (FF k) (LL k) c):wpC P w0 n Q F L (.loop c) :=
 loopI N (λk a w=>H k∧Fr w0.ds a n (FF k)∧St w0 w (LL k)) (λ_ _ ha hw=>⟨h0,ha.all hF,hM ▸ hL ▸ hw.less (sel_sub L m)⟩)
  λk hk a w ⟨hh,ha,hw⟩=>hr k hk hh a w ha hw
theorem againH {N:Nat} {H:Nat→Prop} {FF:Nat→Slots} {LL:Nat→Blocks} {k:Nat} {R:Exit→Act→World→Prop} (m:List Bool) {M:Blocks} (hk:k<N) (hh:H (k+1)) (hF:∀ p∈FF (k+1),F.lookup p.1=some p.2) (hL:sel L m=M) (hM:M=LL (k+1)) :
  X w0 n (Exit.then (NextH w0 n N H FF LL k) R) F L .normal:=λ_ _ ha hw=>⟨hk,hh,ha.all hF,hM ▸ hL ▸ hw.less (sel_sub L m)⟩
theorem Makes.slice (t e:TypeId) (i:TypeInfo) (z:Value) (s b:Nat) (x y:Operand) (kl kc:IntKind) (m:Nat) (c:List Value) (ho:o.op=.makeSlice t x y) (hx:evF F x=.int kl (m:Int)) (hy:evF F y=.int kc (m:Int)) (ht:P.underlying t=some (.slice e)) (hi:P.info? e=some i) (hz:i.zero=some z) (hs:i.size=s) (hs0:0<s) (hb:i.bytes=b)
  (hc:z.cells.toList=c) (hcl:c.length=s) (hbytes:b*m≤281474976710656) (h63:m≤9223372036854775807):Makes P F o e (flat (λ_=>c) m).toArray (λg=>.slice (some ⟨g,0,none⟩) m m):=λw=>by
 subst hs hb
 have hb:(i.bytes:Int)*(m:Int)≤281474976710656:=by
  have h:((i.bytes*m:Nat):Int)≤281474976710656:=by omega
  rwa [Int.natCast_mul] at h
 have hr:=run_make (P:=P) w t e i z ht hi hz kl kc m m (by omega) (Int.le_refl _) hb (by omega)
 simp only [Int.toNat_natCast] at hr
 unfold execOp
 simp only [ho,hx,hy,Sem.run_bind,Sem.run_pure,hr,Result.andThen_ok]
 rw [flat_const c hcl hs0 m z.cells hc]
end
end Sy
end
section
namespace Fz
open Go.RowKit Go.Lib Sy
def vR (R:Nat→Nat):Nat→Nat
 | 0=>0
 | n+1=>vR R n+R n*18446744073709551616 ^ n
def upd (R:Nat→Nat) (k y:Nat):Nat→Nat:=λt=>if t=k then y else R t
theorem upd_ne {R:Nat→Nat} {k y t:Nat} (h:t≠k):upd R k y t=R t:=if_neg h
theorem upd_lt {R:Nat→Nat} {k y:Nat} (h:∀ t,R t<18446744073709551616) (hy:y<18446744073709551616) (t:Nat):upd R k y t<18446744073709551616:=by
 unfold upd
 split
 ·exact hy
 ·exact h t
theorem vR_same {R S:Nat→Nat}:∀ n,(∀ t,t<n→R t=S t)→vR R n=vR S n
 | 0,_=>rfl
 | n+1,h=>by
  show vR R n+_=vR S n+_
  rw [vR_same n λt ht=>h t (by omega),h n (by omega)]
theorem vR_upd (R:Nat→Nat) (k y:Nat):∀ n,k<n→vR (upd R k y) n+R k*18446744073709551616 ^ k=vR R n+y*18446744073709551616 ^ k
 | 0,h=>absurd h (Nat.not_lt_zero _)
 | n+1,h=>by
  show vR (upd R k y) n+upd R k y n*_+_=vR R n+R n*_+_
  by_cases e:k=n
  ·subst e
   rw [show upd R k y k=y from if_pos rfl,vR_same (R:=upd R k y) (S:=R) k λt ht=>if_neg (by omega)]
   omega
  ·have h2:=vR_upd R k y n (by omega)
   rw [show upd R k y n=R n from if_neg (by omega)]
   omega
theorem vR_lt {R:Nat→Nat} (h:∀ t,R t<18446744073709551616):∀ n,vR R n<18446744073709551616 ^ n
 | 0=>Nat.one_pos
 | n+1=>by
  have h1:=vR_lt h n
  have h2:=h n
  show vR R n+R n*_<_
  rw [Nat.pow_succ]
  have h3:(R n+1)*18446744073709551616 ^ n≤18446744073709551616*18446744073709551616 ^ n:=Nat.mul_le_mul_right _ h2
  rw [Nat.add_mul,Nat.one_mul] at h3
  rw [Nat.mul_comm (18446744073709551616 ^ n)]
  omega
theorem vR_split (R:Nat→Nat) (a:Nat):∀ n,vR R (a+n)=vR R a+vR (λt=>R (a+t)) n*18446744073709551616 ^ a
 | 0=>by
  show vR R a=vR R a+0*_
  rw [Nat.zero_mul,Nat.add_zero]
 | n+1=>by
  show vR R (a+n)+R (a+n)*18446744073709551616 ^ (a+n)=vR R a+(vR _ n+R (a+n)*_)*_
  rw [vR_split R a n,Nat.add_mul,Nat.mul_assoc, ← Nat.pow_add,Nat.add_comm n a,Nat.add_assoc]
theorem vR_zero:∀ n,vR (λ_=>0) n=0
 | 0=>rfl
 | n+1=>by
  show vR _ n+0*_=0
  rw [vR_zero n,Nat.zero_mul]
def rw8 (R:Nat→Nat):Array Value:=#[.int .u64 ((R 0:Nat):Int),.int .u64 ((R 1:Nat):Int),.int .u64 ((R 2:Nat):Int),.int .u64 ((R 3:Nat):Int),.int .u64 ((R 4:Nat):Int),.int .u64 ((R 5:Nat):Int),.int .u64 ((R 6:Nat):Int),.int .u64 ((R 7:Nat):Int)]
theorem eight {k:Nat} (h:k<8):k=0∨k=1∨k=2∨k=3∨k=4∨k=5∨k=6∨k=7:=by omega
theorem rw8_at (R:Nat→Nat) {k o:Nat} (h:k<8) (ho:o=k):(rw8 R)[o]? = some (.int .u64 ((R k:Nat):Int)):=by
 subst ho
 rcases eight h with rfl | rfl | rfl | rfl | rfl | rfl | rfl | rfl <;> rfl
theorem rw8_set (R:Nat→Nat) (y:Nat) {k o:Nat} (h:k<8) (ho:o=k):(rw8 R).setIfInBounds o (.int .u64 ((y:Nat):Int))=rw8 (upd R k y):=by
 subst ho
 rcases eight h with rfl | rfl | rfl | rfl | rfl | rfl | rfl | rfl <;> rfl
theorem rw8_fit (R:Nat→Nat) {k o:Nat} (h:k<8) (ho:o=k):o<(rw8 R).size:=by
 subst ho
 exact h
def wd (x:Nat) (t:Nat):Nat:=x / 18446744073709551616 ^ t%18446744073709551616
theorem wd_lt (x t:Nat):wd x t<18446744073709551616:=Nat.mod_lt _ (by decide)
theorem wd_all (x:Nat):∀ n,vR (wd x) n=x%18446744073709551616 ^ n
 | 0=>by rw [Nat.pow_zero,Nat.mod_one]; rfl
 | n+1=>by
  show vR (wd x) n+wd x n*_=_
  rw [wd_all x n,Nat.mod_pow_succ,Nat.mul_comm]
  rfl
theorem fcs_at (x:Nat) {k o:Nat} (h:k<4) (ho:o=k):(fcs x)[o]? = some (.int .u64 ((wd x k:Nat):Int)):=by
 subst ho
 have:o=0∨o=1∨o=2∨o=3:=by omega
 have e0:wd x 0=x%18446744073709551616:=by unfold wd; rw [Nat.pow_zero,Nat.div_one]
 have e1:wd x 1=x / 18446744073709551616%18446744073709551616:=by unfold wd; rw [Nat.pow_one]
 rcases this with rfl | rfl | rfl | rfl
 ·rw [e0]; rfl
 ·rw [e1]; rfl
 ·rfl
 ·rfl
theorem row_fv {R:Nat→Nat} (h:∀ t,R t<18446744073709551616):Value.agg #[.int .u64 ((R 0:Nat):Int),.int .u64 ((R 1:Nat):Int),.int .u64 ((R 2:Nat):Int),.int .u64 ((R 3:Nat):Int)]=fv (vR R 4):=by
 rw [fv_mk _ _ _ _ (h 0) (h 1) (h 2) (h 3)]
 congr 1
 show _=0+R 0*1+R 1*18446744073709551616+R 2*340282366920938463463374607431768211456+R 3*6277101735386680763835789423207666416102355444464034512896
 omega
theorem innerZ {v v' r P c c' y e d V LS Bi P0:Nat} (h1:v'+r*P=v+y*P) (h2:v+c*P=V+e*LS*Bi) (h3:y+18446744073709551616*c'=e*d+r+c) (hp:P=P0*Bi):v'+c'*(P*18446744073709551616)=V+e*(LS+d*P0)*Bi:=by
 grind
theorem outerM {x y i c:Nat} {y1 z:Nat→Nat} (h1:vR y1 8=vR (wd x) i*vR (wd y) 4) (h2:vR z 8+c*18446744073709551616 ^ (i+4)=vR y1 8+wd x i*vR (wd y) 4*18446744073709551616 ^ i) (h3:z (i+4)=0) (hi:i<4):vR (upd z (i+4) c) 8=vR (wd x) (i+1)*vR (wd y) 4:=by
 have h4:=vR_upd z (i+4) c 8 (by omega)
 rw [h3,Nat.zero_mul,Nat.add_zero] at h4
 show _=(vR (wd x) i+wd x i*_)*_
 rw [h4,h2,h1]
 grind
theorem wd4 {x:Nat} (hx:x<(2^256)):vR (wd x) 4=x:=by
 rw [wd_all]
 exact Nat.mod_eq_of_lt hx
end Fz
end
section
namespace Fz
open Go.RowKit Go.Lib Sy
end Fz
end
section
section
open Go.RowKit Go.Lib
end
end
section
section
open Go.RowKit Go.Lib
section
variable {P:Program} {ops:Array Oper}
end
end
end
section
namespace Fz
open Go.RowKit Go.Lib Sy
end Fz
end
section
section
open Go.RowKit Go.Lib
end
end
section
namespace Fz
open Go.RowKit Go.Lib Sy
end Fz
end
section
section
open Go.RowKit Go.Lib
end
end
section
section
open Go.RowKit Go.Lib
def byteN (z j:Nat):UInt8:=UInt8.ofNat (z / 2 ^ (8*j)%256)
def lowB (z:Nat):Nat→List UInt8
 | 0=>[]
 | k+1=>byteN z k::lowB z k
theorem lowB_length (z:Nat):∀ k,(lowB z k).length=k
 | 0=>rfl
 | k+1=>by rw [lowB,List.length_cons,lowB_length z k]
def bytesS (z:Nat):List UInt8:=lowB z 32
def partB (z k:Nat):List UInt8:=List.replicate (32 - k) 0++lowB z k
theorem partB_length (z k:Nat) (h:k≤32):(partB z k).length=32:=by simp [partB,lowB_length]; omega
theorem partB_full (z:Nat):partB z 32=bytesS z:=by simp [partB,bytesS]
theorem partB_set (z k:Nat) (h:k<32):((partB z k).map bv).toArray.setIfInBounds (31 - k) (bv (byteN z k))=((partB z (k+1)).map bv).toArray:=by
 rw [List.setIfInBounds_toArray]
 congr 1
 rw [← List.map_set]
 congr 1
 unfold partB
 rw [List.set_append_left _ _ (by simp; omega)]
 obtain ⟨m,hm⟩:∃ m,32 - k=m+1:=⟨31 - k,by omega⟩
 have h2:32 - (k+1)=m:=by omega
 have h3:31 - k=m:=by omega
 rw [hm,h2,h3,List.replicate_succ',List.set_append_right _ _ (by simp)]
 simp [lowB]
theorem bytesS_length (z:Nat):(bytesS z).length=32:=lowB_length z 32
theorem bv_byteN (z j:Nat):bv (byteN z j)=.int .u8 ((z / 2 ^ (8*j)%256:Nat):Int):=by
 unfold bv byteN
 congr 2
 rw [UInt8.toNat_ofNat']
 omega
theorem Blk.val {w:World} {a:Addr} {v v':Value} {g:Nat} {t:TypeId} {cs:Array Value} (h:Blk (w.setCell a v) g t cs) (e:v=v'):Blk (w.setCell a v') g t cs:=e ▸ h
theorem b32_info {l:List UInt8} (h:l.length=32):(Tryz.prog.info? 22).map (·.size)=some (l.map bv).toArray.size:=by
 simp only [List.size_toArray,List.length_map,h]
 kernel_rfl
theorem b32_one (l:List UInt8):(l.map bv).toArray.all (·.oneCell')=true:=by simp [bv,Value.oneCell']
def valB (l:List UInt8):Nat:=l.foldl (λa b=>a*256+b.toNat) 0
theorem valB_snoc (l:List UInt8) (c:UInt8):valB (l++[c])=valB l*256+c.toNat:=by simp [valB,List.foldl_append]
theorem valB_lt:∀ (n:Nat) (l:List UInt8),l.length=n→valB l<256 ^ n
 | 0,l,h=>by
  obtain rfl:l=[]:=List.length_eq_zero_iff.1 h
  simp [valB]
 | n+1,l,h=>by
  have hne:l≠[]:=by intro e; rw [e] at h; cases h
  have e:=List.dropLast_concat_getLast hne
  have ih:=valB_lt n l.dropLast (by rw [List.length_dropLast]; omega)
  rw [← e,valB_snoc,Nat.pow_succ]
  have:=(l.getLast hne).toNat_lt
  omega
theorem valB_append (l:List UInt8):∀ (n:Nat) (m:List UInt8),m.length=n→valB (l++m)=valB l*256 ^ n+valB m
 | 0,m,h=>by
  obtain rfl:m=[]:=List.length_eq_zero_iff.1 h
  simp [valB]
 | n+1,m,h=>by
  have hne:m≠[]:=by intro e; rw [e] at h; cases h
  have e:=List.dropLast_concat_getLast hne
  have ih:=valB_append l n m.dropLast (by rw [List.length_dropLast]; omega)
  rw [← e, ← List.append_assoc,valB_snoc,valB_snoc,ih,Nat.pow_succ,Nat.add_mul,Nat.mul_assoc]
  omega
def wdB (l:List UInt8) (k p:Nat):Nat:=valB ((l.drop (8*p)).take (min 8 (k - 8*p)))
theorem wdB_zero (l:List UInt8) (p:Nat):wdB l 0 p=0:=by simp [wdB,valB]
theorem wdB_step (l:List UInt8) (k p:Nat) (c:UInt8) (h:l[k]? = some c) (hp:k / 8=p):wdB l (k+1) p=wdB l k p*256+c.toNat:=by
 unfold wdB
 rw [show min 8 (k+1 - 8*p)=(k - 8*p)+1 by omega,show min 8 (k - 8*p)=k - 8*p by omega,List.take_add_one,List.getElem?_drop,show 8*p+(k - 8*p)=k by omega,h]
 exact valB_snoc _ _
theorem wdB_same (l:List UInt8) (k p:Nat) (hp:k / 8≠p):wdB l (k+1) p=wdB l k p:=by
 unfold wdB
 rw [show min 8 (k+1 - 8*p)=min 8 (k - 8*p) by omega]
theorem wdB_lt (l:List UInt8) (k p:Nat) (hp:k / 8=p):wdB l k p<72057594037927936:=by
 unfold wdB
 have h:=valB_lt _ ((l.drop (8*p)).take (min 8 (k - 8*p))) rfl
 refine Nat.lt_of_lt_of_le h ?_
 have:((l.drop (8*p)).take (min 8 (k - 8*p))).length≤7:=by rw [List.length_take]; omega
 exact Nat.pow_le_pow_right (by omega) this
theorem wdB_all (l:List UInt8) (h:l.length=32):valB l=wdB l 32 3+18446744073709551616*wdB l 32 2+340282366920938463463374607431768211456*wdB l 32 1+6277101735386680763835789423207666416102355444464034512896*wdB l 32 0:=by
 have e:l=(l.take 8++(l.drop 8).take 8)++((l.drop 16).take 8++(l.drop 24).take 8):=by
  conv=>lhs; rw [← List.take_append_drop 16 l, ← List.take_append_drop 8 (l.take 16), ← List.take_append_drop 8 (l.drop 16)]
  congr 2
  ·rw [List.take_take]; rfl
  ·rw [List.drop_take]
  ·rw [List.drop_drop,List.take_of_length_le (by simp; omega)]
 have w0:wdB l 32 0=valB (l.take 8):=rfl
 have w1:wdB l 32 1=valB ((l.drop 8).take 8):=rfl
 have w2:wdB l 32 2=valB ((l.drop 16).take 8):=rfl
 have w3:wdB l 32 3=valB ((l.drop 24).take 8):=rfl
 conv=>lhs; rw [e]
 rw [valB_append _ 16 _ (by simp; omega),valB_append _ 8 _ (by simp; omega),valB_append _ 8 _ (by simp; omega),w0,w1,w2,w3]
 have p8:(256:Nat) ^ 8=18446744073709551616:=by decide
 have p16:(256:Nat) ^ 16=340282366920938463463374607431768211456:=by decide
 rw [p8,p16,Nat.add_mul,Nat.mul_assoc]
 omega
theorem wdB_lt8 (l:List UInt8) (k p:Nat):wdB l k p<18446744073709551616:=by
 unfold wdB
 have h:=valB_lt _ ((l.drop (8*p)).take (min 8 (k - 8*p))) rfl
 refine Nat.lt_of_lt_of_le h ?_
 have:((l.drop (8*p)).take (min 8 (k - 8*p))).length≤8:=by rw [List.length_take]; omega
 exact Nat.pow_le_pow_right (by omega) this
theorem or_add (w c:Nat) (hw:w<72057594037927936) (hc:c<256):bits .or .u64 ((w:Int)*256) (c:Int)=((w*256+c:Nat):Int):=by
 have e:((w:Int)*256)=((w*256:Nat):Int):=by omega
 rw [e]
 have h:w*256 ||| c=w*256+c:=by
  have:=Nat.two_pow_add_eq_or_of_lt (i:=8) (b:=c) (by omega) w
  rw [Nat.mul_comm w 256]
  exact this.symm
 have hw2:(BitVec.ofInt 64 ((w*256:Nat):Int) ||| BitVec.ofInt 64 (c:Int)).toNat=w*256+c:=by
  rw [BitVec.toNat_or]
  simp only [BitVec.ofInt_natCast,BitVec.toNat_ofNat]
  rw [Nat.mod_eq_of_lt (by omega),Nat.mod_eq_of_lt (by omega),h]
 show IntKind.u64.wrap ((BitVec.ofInt 64 ((w*256:Nat):Int) ||| BitVec.ofInt 64 (c:Int)).toNat:Int)=_
 rw [hw2,IntKind.wrap_u64]
 omega
theorem run_index_b32 (W:World) (l:List UInt8) (k:Nat) (c:UInt8) (h:l[k]? = some c) (hk:k<32) :
  (Instr.index 22 (.agg (l.map bv).toArray) (.int .i64 (k:Int))).run Tryz.prog W=.ok (bv c) W:=by
 unfold Instr.index
 have hs:∀ W,(sizeOf 5).run Tryz.prog W=.ok 1 W:=λW=>by kernel_rfl
 have pc:(part 5 (l.map bv).toArray ((k:Int).toNat*1)).run Tryz.prog W=.ok (bv c) W:=by
  simp [part,isAgg,run_underlying Tryz.underlying5,h]
 simp only [asIntOf,Sem.run_bind,Sem.run_pure,Result.andThen_ok,run_underlying Tryz.underlying22]
 rw [if_pos ⟨by omega,by omega⟩]
 simp only [Sem.run_bind,hs,Result.andThen_ok,pc]
theorem p256 (k:Nat):(2:Nat) ^ (8*k)=256 ^ k:=by rw [Nat.pow_mul]
theorem valB_lowB (z:Nat):∀ k,valB (lowB z k)=z%256 ^ k
 | 0=>by simp [lowB,valB,Nat.mod_one]
 | k+1=>by
  have h:=valB_append [byteN z k] k (lowB z k) (lowB_length z k)
  rw [lowB]
  rw [List.singleton_append] at h
  rw [h,valB_lowB z k,Nat.mod_pow_succ]
  have e:valB [byteN z k]=z / 256 ^ k%256:=by
   have:valB [byteN z k]=(byteN z k).toNat:=by simp [valB]
   rw [this,byteN,UInt8.toNat_ofNat',p256]
   omega
  rw [e,Nat.mul_comm]
  omega
theorem valB_bytesS (z:Nat) (hz:z<(2^256)):valB (bytesS z)=z:=by
 rw [bytesS,valB_lowB]
 have:(256:Nat) ^ 32=(2^256):=by decide
 rw [this,Nat.mod_eq_of_lt hz]
theorem valB_lt32 (l:List UInt8) (h:l.length=32):valB l<(2^256):=by
 have:=valB_lt 32 l h
 have e:(256:Nat) ^ 32=(2^256):=by decide
 omega
end
end
section
section
open Go.RowKit Sp
end
end
section
section
open Go.RowKit Go.Lib
end
end
section
namespace Cu
open Go.RowKit Sy
set_option maxRecDepth 100000
set_option maxHeartbeats 4000000
theorem baseR_c (w:World)  : Calls Tryz.prog 19 #[] w (Gets w (ptv bP)):=by
 refine Sy.enter (args:=[]) Tryz.func19 rfl kL ?_
 refine sC ?_
 refine sM 48 (pcs 0 0 false) (λg0=>?_)
 refine sA ?_
 refine sP (fv 55066263022277343669578718895168534326250603453777594175500187360389116729240)<|sP (fv 32670510020758816978083085130507043184471273380659243275938904335757337482424)<|sP (pv 55066263022277343669578718895168534326250603453777594175500187360389116729240 32670510020758816978083085130507043184471273380659243275938904335757337482424 false)<|sW 0 g0 48 (pcs 0 0 false) (pcs 55066263022277343669578718895168534326250603453777594175500187360389116729240 32670510020758816978083085130507043184471273380659243275938904335757337482424 false) (wS 0 48 (pcs 55066263022277343669578718895168534326250603453777594175500187360389116729240 32670510020758816978083085130507043184471273380659243275938904335757337482424 false) rfl) ?_
 refine sG<|Sy.ret ?_
 rw [show (ptv bP:Value)=pv 55066263022277343669578718895168534326250603453777594175500187360389116729240 32670510020758816978083085130507043184471273380659243275938904335757337482424 false from by kernel_rfl]
 exact rC (v:=pv 55066263022277343669578718895168534326250603453777594175500187360389116729240 32670510020758816978083085130507043184471273380659243275938904335757337482424 false) 48 g0 0 (pcs 55066263022277343669578718895168534326250603453777594175500187360389116729240 32670510020758816978083085130507043184471273380659243275938904335757337482424 false) rfl Tryz.underlying48
end Cu
end
section
namespace Cu
open Go.RowKit Sy
set_option maxRecDepth 100000
set_option maxHeartbeats 4000000
end Cu
end
section
namespace Sc
open Go.RowKit
def pM:Nat:=115792089237316195423570985008687907852837564279074904382605163141518161494337
theorem pM_eq:pM=115792089237316195423570985008687907852837564279074904382605163141518161494337:=rfl
theorem mod_lt (n:Nat):n%pM<(2^256):=by have:=Nat.mod_lt n (show 0<pM by decide); rw [pM_eq] at this ⊢; omega
theorem mod_lt_p (n:Nat):n%pM<pM:=Nat.mod_lt n (by decide)
def addP (x y:Nat):Nat:=(x+y)%pM
def negP (x:Nat):Nat:=(pM - x%pM)%pM
def subP (x y:Nat):Nat:=(x+(pM - y%pM))%pM
def mulP (x y:Nat):Nat:=x*y%pM
theorem addP_lt (x y:Nat):addP x y<(2^256):=mod_lt _
theorem negP_lt (x:Nat):negP x<(2^256):=mod_lt _
theorem subP_lt (x y:Nat):subP x y<(2^256):=mod_lt _
theorem mod_of_mult {x z k:Nat} (h:z+115792089237316195423570985008687907852837564279074904382605163141518161494337*k=x):z%pM=x%pM:=by
 rw [← h,pM_eq,Nat.add_mul_mod_self_left]
end Sc
end
section
namespace Sc
open Go.RowKit Go.Lib
theorem order_any (w:World):Calls Tryz.prog 222 #[] w λe w'=>e=.returned (fv 115792089237316195423570985008687907852837564279074904382605163141518161494337)∧Below w.heap.size w w':=by
 go_enter Tryz.func222,Tryz.ntmps222
 go_wp2
 exact bodyPost_ret (results_cell_row rfl _ _ w.heap.size _ _ (0,0) _ rfl (heap_alloc_new w _) Tryz.underlying42 rfl (by kernel_rfl)) rfl ⟨rfl,(Below.refl _ _).alloc (Nat.le_refl _) _⟩
set_option maxHeartbeats 8000000 in
set_option maxRecDepth 100000 in
theorem minus_any (w:World) (x y:Nat) (hx:x<(2^256)) (hy:y<(2^256)):Calls Tryz.prog 221 #[fv x,fv y] w λe w'=>(∃ s k:Nat,s<(2^256)∧k≤1∧s+y=x+(2^256)*k∧e=.returned (.tuple #[fv s,.int .u64 (k:Int)]))∧Below w.heap.size w w':=by
 obtain ⟨x0,x1,x2,x3,a0,a1,a2,a3,ex,fx⟩:=words_of x hx
 obtain ⟨y0,y1,y2,y3,b0,b1,b2,b3,ey,fy⟩:=words_of y hy
 rw [fx,fy]
 obtain ⟨s0,c0,d0,k0,e0,r0⟩:=sub0_ex x0 y0 a0 b0
 obtain ⟨s1,c1,d1,k1,e1,r1⟩:=subc_ex x1 y1 c0 a1 b1 k0
 obtain ⟨s2,c2,d2,k2,e2,r2⟩:=subc_ex x2 y2 c1 a2 b2 k1
 obtain ⟨s3,c3,d3,k3,e3,r3⟩:=subc_ex x3 y3 c2 a3 b3 k2
 have fin:s0+18446744073709551616*s1+340282366920938463463374607431768211456*s2+6277101735386680763835789423207666416102355444464034512896*s3+y=x+(2^256)*c3:=by omega
 have hs:=Lib.hid (fv_mk s0 s1 s2 s3 d0 d1 d2 d3)
 have hlt:=Lib.hid (fv_lt s0 s1 s2 s3 d0 d1 d2 d3)
 have HF:=Lib.hid fin
 have HK:=Lib.hid k3
 clear ex ey fx fy e0 e1 e2 e3 a0 a1 a2 a3 b0 b1 b2 b3 d0 d1 d2 d3 k0 k1 k2 k3 fin hx hy
 go_enter Tryz.func221,Tryz.ntmps221
 go_wp2_with fail
 go_loopw [5,7] (λbo i wr=>Below w.heap.size w wr∧Blk wr w.heap.size 42 #[.int .u64 (x0:Int),.int .u64 (x1:Int),.int .u64 (x2:Int),.int .u64 (x3:Int)]∧Blk wr (w.heap.size+1) 42 #[.int .u64 (y0:Int),.int .u64 (y1:Int),.int .u64 (y2:Int),.int .u64 (y3:Int)]∧Hid ((i=.int .i64 0∧bo=.int .u64 0∧Blk wr (w.heap.size+2) 42 #[.int .u64 0,.int .u64 0,.int .u64 0,.int .u64 0])∨(i=.int .i64 1∧bo=.int .u64 (c0:Int)∧Blk wr (w.heap.size+2) 42 #[.int .u64 (s0:Int),.int .u64 0,.int .u64 0,.int .u64 0])∨(i=.int .i64 2∧bo=.int .u64 (c1:Int)∧Blk wr (w.heap.size+2) 42 #[.int .u64 (s0:Int),.int .u64 (s1:Int),.int .u64 0,.int .u64 0])∨(i=.int .i64 3∧bo=.int .u64 (c2:Int)∧Blk wr (w.heap.size+2) 42 #[.int .u64 (s0:Int),.int .u64 (s1:Int),.int .u64 (s2:Int),.int .u64 0])∨(i=.int .i64 4∧bo=.int .u64 (c3:Int)∧Blk wr (w.heap.size+2) 42 #[.int .u64 (s0:Int),.int .u64 (s1:Int),.int .u64 (s2:Int),.int .u64 (s3:Int)]))) (λ_ i _=>4 - (intOf i).toNat)
 case atStart=>exact ⟨below_alloc3 w _ _ _,((Blk.new w _ _).alloc _).alloc _,(blk_new2 w _ _ _).alloc _,Lib.hid (.inl ⟨rfl,rfl,blk_new3 w _ _ _ _⟩)⟩
 case round =>
  obtain ⟨hb,BX,BY,HI⟩:=hrel
  have lX:=BX.lt
  have lY:=BY.lt
  rcases HI.out with ⟨rfl,rfl,BW⟩ | ⟨rfl,rfl,BW⟩ | ⟨rfl,rfl,BW⟩ | ⟨rfl,rfl,BW⟩ | ⟨rfl,rfl,BW⟩
  ·clear HI
   have px:wr.cell? ⟨w.heap.size,0,none⟩=some (.int .u64 (x0:Int)):=BX.cell 0
   have py:wr.cell? ⟨w.heap.size+1,0,none⟩=some (.int .u64 (y0:Int)):=BY.cell 0
   go_wp2
   refine wp_region_G (λj=>j == 13) (by kernel_rfl) ?_
   try simp only [Act.put]
   refine tk 0 rfl ?_
   try simp only [Act.put,aA,aZ,aS]
   refine tk 1 rfl ?_
   try simp only [Act.put,aA,aZ,aS]
   refine tk 2 rfl ?_
   try simp only [Act.put,aA,aZ,aS]
   refine tkw 3 rfl (YieldsG.pure (v:=.int .u64 (x0:Int)) (by rfl) (λw9 h9=>by have hz:=(Below.cell (p:=⟨w.heap.size,0,none⟩) h9 lX).trans px; go_simp; first | done | simp [hz])) ?_
   try simp only [Act.put,aA,aZ,aS]
   refine tk 4 rfl ?_
   try simp only [Act.put,aA,aZ,aS]
   refine tk 5 rfl ?_
   try simp only [Act.put,aA,aZ,aS]
   refine tkw 6 rfl (YieldsG.pure (v:=.int .u64 (y0:Int)) (by rfl) (λw9 h9=>by have hz:=(Below.cell (p:=⟨w.heap.size+1,0,none⟩) h9 lY).trans py; go_simp; first | done | simp [hz])) ?_
   try simp only [Act.put,aA,aZ,aS]
   refine tk 7 rfl ?_
   try simp only [Act.put,aA,aZ,aS]
   refine tkw 8 rfl (YieldsG.pure (v:=.tuple #[.int .u64 (s0:Int),.int .u64 (c0:Int)]) (by rfl) (λw9 h9=>by go_simp)) ?_
   try simp only [Act.put,aA,aZ,aS]
   refine tk 9 rfl ?_
   try simp only [Act.put,aA,aZ,aS]
   refine tk 10 rfl ?_
   try simp only [Act.put,aA,aZ,aS]
   refine wpAnyG_takeA 11 rfl (by kernel_rfl) (λ_ _ _ h=>h) (λ_=>YieldsG.pure (by rfl) (λw9 _=>by go_simp; try with_reducible rfl)) ?_
   try simp only [Act.put,aA,aZ,aS]
   refine tk 12 rfl ?_
   try simp only [Act.put,aA,aZ,aS]
   refine wpAnyG_sole 13 rfl (by kernel_rfl) (by rfl) (λu hu K hK=>?_)
   have BX:=Gr.blk hu BX
   have BY:=Gr.blk hu BY
   have BW:=Gr.blk hu BW
   have hb:=Below.gr hb hu
   have pc:u.cell? ⟨w.heap.size+2,0,none⟩=some (.int .u64 0):=BW.cell 0
   have pf:=BW.frozen 0
   clear hu px py
   go_simp
   refine hK _ _ (λe=>by cases e) ?_
   clear hK K
   have hb:=hb.setCell (p:=⟨w.heap.size+2,0,none⟩) (by show w.heap.size≤w.heap.size+2; omega) (.int .u64 (s0:Int))
   have BX:=BX.far (p:=⟨w.heap.size+2,0,none⟩) (by show w.heap.size≠w.heap.size+2; omega) (.int .u64 (s0:Int))
   have BY:=BY.far (p:=⟨w.heap.size+2,0,none⟩) (by show w.heap.size+1≠w.heap.size+2; omega) (.int .u64 (s0:Int))
   have BW:=BW.set_ 0 (.int .u64 (s0:Int))
   refine wpAnyG_takeA 14 rfl (by kernel_rfl) (λ_ _ _ h=>h) (λ_=>YieldsG.pure (by rfl) (λw9 _=>by go_simp; try with_reducible rfl)) ?_
   try simp only [Act.put,aA,aZ,aS]
   refine wpAnyG_done (by kernel_rfl) (λv hv=>?_)
   have hb:=Below.gr hb hv
   have BX:=Gr.blk hv BX
   have BY:=Gr.blk hv BY
   have BW:=Gr.blk hv BW
   clear hv pc pf
   go_wp2
   refine ⟨⟨hb,BX,BY,Lib.hid (.inr (.inl (⟨rfl,rfl,BW⟩)))⟩,by decide⟩
  ·clear HI
   have px:wr.cell? ⟨w.heap.size,1,none⟩=some (.int .u64 (x1:Int)):=BX.cell 1
   have py:wr.cell? ⟨w.heap.size+1,1,none⟩=some (.int .u64 (y1:Int)):=BY.cell 1
   go_wp2
   refine wp_region_G (λj=>j == 13) (by kernel_rfl) ?_
   try simp only [Act.put]
   refine tk 0 rfl ?_
   try simp only [Act.put,aA,aZ,aS]
   refine tk 1 rfl ?_
   try simp only [Act.put,aA,aZ,aS]
   refine tk 2 rfl ?_
   try simp only [Act.put,aA,aZ,aS]
   refine tkw 3 rfl (YieldsG.pure (v:=.int .u64 (x1:Int)) (by rfl) (λw9 h9=>by have hz:=(Below.cell (p:=⟨w.heap.size,1,none⟩) h9 lX).trans px; go_simp; first | done | simp [hz])) ?_
   try simp only [Act.put,aA,aZ,aS]
   refine tk 4 rfl ?_
   try simp only [Act.put,aA,aZ,aS]
   refine tk 5 rfl ?_
   try simp only [Act.put,aA,aZ,aS]
   refine tkw 6 rfl (YieldsG.pure (v:=.int .u64 (y1:Int)) (by rfl) (λw9 h9=>by have hz:=(Below.cell (p:=⟨w.heap.size+1,1,none⟩) h9 lY).trans py; go_simp; first | done | simp [hz])) ?_
   try simp only [Act.put,aA,aZ,aS]
   refine tk 7 rfl ?_
   try simp only [Act.put,aA,aZ,aS]
   refine tkw 8 rfl (YieldsG.pure (v:=.tuple #[.int .u64 (s1:Int),.int .u64 (c1:Int)]) (by rfl) (λw9 h9=>by go_simp)) ?_
   try simp only [Act.put,aA,aZ,aS]
   refine tk 9 rfl ?_
   try simp only [Act.put,aA,aZ,aS]
   refine tk 10 rfl ?_
   try simp only [Act.put,aA,aZ,aS]
   refine wpAnyG_takeA 11 rfl (by kernel_rfl) (λ_ _ _ h=>h) (λ_=>YieldsG.pure (by rfl) (λw9 _=>by go_simp; try with_reducible rfl)) ?_
   try simp only [Act.put,aA,aZ,aS]
   refine tk 12 rfl ?_
   try simp only [Act.put,aA,aZ,aS]
   refine wpAnyG_sole 13 rfl (by kernel_rfl) (by rfl) (λu hu K hK=>?_)
   have BX:=Gr.blk hu BX
   have BY:=Gr.blk hu BY
   have BW:=Gr.blk hu BW
   have hb:=Below.gr hb hu
   have pc:u.cell? ⟨w.heap.size+2,1,none⟩=some (.int .u64 0):=BW.cell 1
   have pf:=BW.frozen 1
   clear hu px py
   go_simp
   refine hK _ _ (λe=>by cases e) ?_
   clear hK K
   have hb:=hb.setCell (p:=⟨w.heap.size+2,1,none⟩) (by show w.heap.size≤w.heap.size+2; omega) (.int .u64 (s1:Int))
   have BX:=BX.far (p:=⟨w.heap.size+2,1,none⟩) (by show w.heap.size≠w.heap.size+2; omega) (.int .u64 (s1:Int))
   have BY:=BY.far (p:=⟨w.heap.size+2,1,none⟩) (by show w.heap.size+1≠w.heap.size+2; omega) (.int .u64 (s1:Int))
   have BW:=BW.set_ 1 (.int .u64 (s1:Int))
   refine wpAnyG_takeA 14 rfl (by kernel_rfl) (λ_ _ _ h=>h) (λ_=>YieldsG.pure (by rfl) (λw9 _=>by go_simp; try with_reducible rfl)) ?_
   try simp only [Act.put,aA,aZ,aS]
   refine wpAnyG_done (by kernel_rfl) (λv hv=>?_)
   have hb:=Below.gr hb hv
   have BX:=Gr.blk hv BX
   have BY:=Gr.blk hv BY
   have BW:=Gr.blk hv BW
   clear hv pc pf
   go_wp2
   refine ⟨⟨hb,BX,BY,Lib.hid (.inr (.inr (.inl (⟨rfl,rfl,BW⟩))))⟩,by decide⟩
  ·clear HI
   have px:wr.cell? ⟨w.heap.size,2,none⟩=some (.int .u64 (x2:Int)):=BX.cell 2
   have py:wr.cell? ⟨w.heap.size+1,2,none⟩=some (.int .u64 (y2:Int)):=BY.cell 2
   go_wp2
   refine wp_region_G (λj=>j == 13) (by kernel_rfl) ?_
   try simp only [Act.put]
   refine tk 0 rfl ?_
   try simp only [Act.put,aA,aZ,aS]
   refine tk 1 rfl ?_
   try simp only [Act.put,aA,aZ,aS]
   refine tk 2 rfl ?_
   try simp only [Act.put,aA,aZ,aS]
   refine tkw 3 rfl (YieldsG.pure (v:=.int .u64 (x2:Int)) (by rfl) (λw9 h9=>by have hz:=(Below.cell (p:=⟨w.heap.size,2,none⟩) h9 lX).trans px; go_simp; first | done | simp [hz])) ?_
   try simp only [Act.put,aA,aZ,aS]
   refine tk 4 rfl ?_
   try simp only [Act.put,aA,aZ,aS]
   refine tk 5 rfl ?_
   try simp only [Act.put,aA,aZ,aS]
   refine tkw 6 rfl (YieldsG.pure (v:=.int .u64 (y2:Int)) (by rfl) (λw9 h9=>by have hz:=(Below.cell (p:=⟨w.heap.size+1,2,none⟩) h9 lY).trans py; go_simp; first | done | simp [hz])) ?_
   try simp only [Act.put,aA,aZ,aS]
   refine tk 7 rfl ?_
   try simp only [Act.put,aA,aZ,aS]
   refine tkw 8 rfl (YieldsG.pure (v:=.tuple #[.int .u64 (s2:Int),.int .u64 (c2:Int)]) (by rfl) (λw9 h9=>by go_simp)) ?_
   try simp only [Act.put,aA,aZ,aS]
   refine tk 9 rfl ?_
   try simp only [Act.put,aA,aZ,aS]
   refine tk 10 rfl ?_
   try simp only [Act.put,aA,aZ,aS]
   refine wpAnyG_takeA 11 rfl (by kernel_rfl) (λ_ _ _ h=>h) (λ_=>YieldsG.pure (by rfl) (λw9 _=>by go_simp; try with_reducible rfl)) ?_
   try simp only [Act.put,aA,aZ,aS]
   refine tk 12 rfl ?_
   try simp only [Act.put,aA,aZ,aS]
   refine wpAnyG_sole 13 rfl (by kernel_rfl) (by rfl) (λu hu K hK=>?_)
   have BX:=Gr.blk hu BX
   have BY:=Gr.blk hu BY
   have BW:=Gr.blk hu BW
   have hb:=Below.gr hb hu
   have pc:u.cell? ⟨w.heap.size+2,2,none⟩=some (.int .u64 0):=BW.cell 2
   have pf:=BW.frozen 2
   clear hu px py
   go_simp
   refine hK _ _ (λe=>by cases e) ?_
   clear hK K
   have hb:=hb.setCell (p:=⟨w.heap.size+2,2,none⟩) (by show w.heap.size≤w.heap.size+2; omega) (.int .u64 (s2:Int))
   have BX:=BX.far (p:=⟨w.heap.size+2,2,none⟩) (by show w.heap.size≠w.heap.size+2; omega) (.int .u64 (s2:Int))
   have BY:=BY.far (p:=⟨w.heap.size+2,2,none⟩) (by show w.heap.size+1≠w.heap.size+2; omega) (.int .u64 (s2:Int))
   have BW:=BW.set_ 2 (.int .u64 (s2:Int))
   refine wpAnyG_takeA 14 rfl (by kernel_rfl) (λ_ _ _ h=>h) (λ_=>YieldsG.pure (by rfl) (λw9 _=>by go_simp; try with_reducible rfl)) ?_
   try simp only [Act.put,aA,aZ,aS]
   refine wpAnyG_done (by kernel_rfl) (λv hv=>?_)
   have hb:=Below.gr hb hv
   have BX:=Gr.blk hv BX
   have BY:=Gr.blk hv BY
   have BW:=Gr.blk hv BW
   clear hv pc pf
   go_wp2
   refine ⟨⟨hb,BX,BY,Lib.hid (.inr (.inr (.inr (.inl (⟨rfl,rfl,BW⟩)))))⟩,by decide⟩
  ·clear HI
   have px:wr.cell? ⟨w.heap.size,3,none⟩=some (.int .u64 (x3:Int)):=BX.cell 3
   have py:wr.cell? ⟨w.heap.size+1,3,none⟩=some (.int .u64 (y3:Int)):=BY.cell 3
   go_wp2
   refine wp_region_G (λj=>j == 13) (by kernel_rfl) ?_
   try simp only [Act.put]
   refine tk 0 rfl ?_
   try simp only [Act.put,aA,aZ,aS]
   refine tk 1 rfl ?_
   try simp only [Act.put,aA,aZ,aS]
   refine tk 2 rfl ?_
   try simp only [Act.put,aA,aZ,aS]
   refine tkw 3 rfl (YieldsG.pure (v:=.int .u64 (x3:Int)) (by rfl) (λw9 h9=>by have hz:=(Below.cell (p:=⟨w.heap.size,3,none⟩) h9 lX).trans px; go_simp; first | done | simp [hz])) ?_
   try simp only [Act.put,aA,aZ,aS]
   refine tk 4 rfl ?_
   try simp only [Act.put,aA,aZ,aS]
   refine tk 5 rfl ?_
   try simp only [Act.put,aA,aZ,aS]
   refine tkw 6 rfl (YieldsG.pure (v:=.int .u64 (y3:Int)) (by rfl) (λw9 h9=>by have hz:=(Below.cell (p:=⟨w.heap.size+1,3,none⟩) h9 lY).trans py; go_simp; first | done | simp [hz])) ?_
   try simp only [Act.put,aA,aZ,aS]
   refine tk 7 rfl ?_
   try simp only [Act.put,aA,aZ,aS]
   refine tkw 8 rfl (YieldsG.pure (v:=.tuple #[.int .u64 (s3:Int),.int .u64 (c3:Int)]) (by rfl) (λw9 h9=>by go_simp)) ?_
   try simp only [Act.put,aA,aZ,aS]
   refine tk 9 rfl ?_
   try simp only [Act.put,aA,aZ,aS]
   refine tk 10 rfl ?_
   try simp only [Act.put,aA,aZ,aS]
   refine wpAnyG_takeA 11 rfl (by kernel_rfl) (λ_ _ _ h=>h) (λ_=>YieldsG.pure (by rfl) (λw9 _=>by go_simp; try with_reducible rfl)) ?_
   try simp only [Act.put,aA,aZ,aS]
   refine tk 12 rfl ?_
   try simp only [Act.put,aA,aZ,aS]
   refine wpAnyG_sole 13 rfl (by kernel_rfl) (by rfl) (λu hu K hK=>?_)
   have BX:=Gr.blk hu BX
   have BY:=Gr.blk hu BY
   have BW:=Gr.blk hu BW
   have hb:=Below.gr hb hu
   have pc:u.cell? ⟨w.heap.size+2,3,none⟩=some (.int .u64 0):=BW.cell 3
   have pf:=BW.frozen 3
   clear hu px py
   go_simp
   refine hK _ _ (λe=>by cases e) ?_
   clear hK K
   have hb:=hb.setCell (p:=⟨w.heap.size+2,3,none⟩) (by show w.heap.size≤w.heap.size+2; omega) (.int .u64 (s3:Int))
   have BX:=BX.far (p:=⟨w.heap.size+2,3,none⟩) (by show w.heap.size≠w.heap.size+2; omega) (.int .u64 (s3:Int))
   have BY:=BY.far (p:=⟨w.heap.size+2,3,none⟩) (by show w.heap.size+1≠w.heap.size+2; omega) (.int .u64 (s3:Int))
   have BW:=BW.set_ 3 (.int .u64 (s3:Int))
   refine wpAnyG_takeA 14 rfl (by kernel_rfl) (λ_ _ _ h=>h) (λ_=>YieldsG.pure (by rfl) (λw9 _=>by go_simp; try with_reducible rfl)) ?_
   try simp only [Act.put,aA,aZ,aS]
   refine wpAnyG_done (by kernel_rfl) (λv hv=>?_)
   have hb:=Below.gr hb hv
   have BX:=Gr.blk hv BX
   have BY:=Gr.blk hv BY
   have BW:=Gr.blk hv BW
   clear hv pc pf
   go_wp2
   refine ⟨⟨hb,BX,BY,Lib.hid (.inr (.inr (.inr (.inr (⟨rfl,rfl,BW⟩)))))⟩,by decide⟩
  ·clear HI
   obtain ⟨s,hsd⟩:∃ s,s=s0+18446744073709551616*s1+340282366920938463463374607431768211456*s2+6277101735386680763835789423207666416102355444464034512896*s3:=⟨_,rfl⟩
   have hf:=hs.out
   have hl:=hlt.out
   have hn:=HF.out
   rw [← hsd] at hf hl hn
   have BS:=BW.eq_ (fcs_words hf.symm).symm
   have HS:=Lib.hid (And.intro hl hn)
   clear hf hl hn hsd
   go_wp2_with (first | ((with_reducible refine here_load (d:=some 24) ?_); refine wpList_load_fv rfl _ _ rfl (w.heap.size+2) rfl (s) _ _ _ (BS) (fv_fcs s) Tryz.underlying42 rfl (by kernel_rfl) ?_) | ((with_reducible refine here_store ?_); refine wpList_store_blk rfl _ _ _ rfl (w.heap.size+2) (fcs (s)) rfl rfl _ _ (BS) (by kernel_rfl) (by rfl) (fcs_one _) ?_; intro w9 hL9 hB9 hK9))
   exact bodyPost_ret (res_cell_tmp rfl _ _ (w.heap.size+2) _ _ _ _ rfl hL9 rfl Tryz.underlying42 rfl (by kernel_rfl)) rfl ⟨⟨s,c3,HS.out.1,HK.out,HS.out.2,rfl⟩,hb.trans (hB9 _ (by omega))⟩
theorem minus_fv (w:World) (x y s k:Nat) (hx:x<(2^256)) (hy:y<(2^256)) (hs:s<(2^256)) (he:s+y=x+(2^256)*k) :
  Calls Tryz.prog 221 #[fv x,fv y] w λe w'=>e=.returned (.tuple #[fv s,.int .u64 (k:Int)])∧Below w.heap.size w w':=by
 refine (minus_any w x y hx hy).mono ?_
 rintro e w' ⟨⟨s',k',hs',hk',he',rfl⟩,hb⟩
 obtain rfl:k'=k:=by omega
 obtain rfl:s'=s:=by omega
 exact ⟨rfl,hb⟩
theorem order_at (w:World) (p:Nat) (hp:p=115792089237316195423570985008687907852837564279074904382605163141518161494337):Calls Tryz.prog 222 #[] w λe w'=>e=.returned (fv p)∧Below w.heap.size w w':=by
 subst hp; exact order_any w
set_option maxHeartbeats 2000000 in
set_option maxRecDepth 100000 in
theorem reduce_at (w:World) (x k z:Nat) (dk:Int) (hdk:dk=(k:Int)) (hx:x<(2^256)) (hk:k≤1) (h2:x+(2^256)*k<115792089237316195423570985008687907852837564279074904382605163141518161494337+115792089237316195423570985008687907852837564279074904382605163141518161494337) (hz:z=(x+(2^256)*k)%pM):Calls Tryz.prog 176 #[fv x,.int .u64 dk] w λe w'=>e=.returned (fv z)∧Below w.heap.size w w':=by
 subst hdk
 obtain ⟨p,hp⟩:∃ p,p=115792089237316195423570985008687907852837564279074904382605163141518161494337:=⟨_,rfl⟩
 rw [pM_eq, ← hp] at hz
 rw [← hp] at h2
 have hpl:p<(2^256):=by omega
 obtain ⟨s,b,hs,hb,he⟩:∃ s b:Nat,s<(2^256)∧b≤1∧s+p=x+(2^256)*b:=by
  by_cases h:p≤x
  ·exact ⟨x - p,0,by omega,by omega,by omega⟩
  ·exact ⟨x+(2^256) - p,1,by omega,by omega,by omega⟩
 have cm:=λw=>minus_fv w x p s b hx hpl hs he
 have co:=λw=>order_at w p hp
 have t1:b>k→z=x:=λh=>by
  obtain rfl:k=0:=by omega
  rw [hz,Nat.mod_eq_of_lt (by omega)]; omega
 have t2:¬ b>k→z=s:=λh=>by
  rw [hz,Nat.mod_eq_sub_mod (by omega),Nat.mod_eq_of_lt (by omega)]
  rcases (show k=0∨k=1 by omega) with rfl | rfl <;> omega
 obtain ⟨x0,x1,x2,x3,fx⟩:=words_fv x hx
 have FX:=Lib.hid fx
 rw [fx]
 clear fx hx hz hp h2 hpl hs hb he hk
 go_enter Tryz.func176,Tryz.ntmps176
 go_wp2
 refine wp_region_G (λj=>j == 7) (by kernel_rfl) ?_
 try simp only [Act.put]
 refine tkw 0 rfl (YieldsG.loadF (by rfl) _ _ rfl (w.heap.size) rfl (x) _ _ ((Blk.new w _ _).alloc _) (FX.out) Tryz.underlying42 rfl (by kernel_rfl)) ?_
 try simp only [Act.put,aA,aZ,aS]
 refine tkw 1 rfl (YieldsG.call (v:=fv p) (by rfl) 222 _ (λw9=>by go_simp; try (first | with_reducible rfl | rfl)) (λw9 h9=>co w9)) ?_
 try simp only [Act.put,aA,aZ,aS]
 refine tkw 2 rfl (YieldsG.call (v:=.tuple #[fv s,.int .u64 (b:Int)]) (by rfl) 221 _ (λw9=>by go_simp; try (first | with_reducible rfl | rfl)) (λw9 h9=>cm w9)) ?_
 try simp only [Act.put,aA,aZ,aS]
 refine tk 3 rfl ?_
 try simp only [Act.put,aA,aZ,aS]
 refine tk 4 rfl ?_
 try simp only [Act.put,aA,aZ,aS]
 refine wpAnyG_takeA 5 rfl (by kernel_rfl) (λ_ _ _ h=>h) (λ_=>YieldsG.pure (by rfl) (λw9 _=>by go_simp; try with_reducible rfl)) ?_
 try simp only [Act.put,aA,aZ,aS]
 refine wpAnyG_sole 6 rfl (by kernel_rfl) (by rfl) (λw3 h3 K hK=>?_)
 go_simp
 refine hK _ _ (λ_=>gr_alloc _ _) ?_
 clear hK K
 try simp only [Act.put,aA,aZ,aS]
 refine wpAnyG_store 7 rfl (by kernel_rfl) (by rfl) _ _ _ rfl (w3.heap.size) (fcs (s)) rfl rfl _ _ (Blk.new w3 _ _) (by kernel_rfl) (by rfl) (fcs_one _) rfl (λw6 h6 w7 hB7 hL7=>?_)
 try simp only [Act.put]
 refine wpAnyG_takeA 8 rfl (by kernel_rfl) (λ_ _ _ h=>h) (λ_=>YieldsG.pure (by rfl) (λw9 _=>by go_simp; try with_reducible rfl)) ?_
 try simp only [Act.put,aA,aZ,aS]
 refine wpAnyG_done (by kernel_rfl) (λw8 h8=>?_)
 have BS:=Gr.blk h8 hL7
 have hsz:w.heap.size+2≤w3.heap.size:=by have:=h3.size; simp at this; omega
 have BX:Blk w8 w.heap.size 42 _:=Gr.blk h8 (Blk.below (B:=w3.heap.size) (Gr.blk h6 (Blk.alloc (Gr.blk h3 ((Blk.new w _ _).alloc _)) _)) (hB7 _ (Nat.le_refl _)) (by omega))
 have BR:Blk w8 (w.heap.size+1) 42 _:=Gr.blk h8 (Blk.below (B:=w3.heap.size) (Gr.blk h6 (Blk.alloc (Gr.blk h3 (blk_new2 w _ _ _)) _)) (hB7 _ (Nat.le_refl _)) (by omega))
 have hB:Below w.heap.size w w8:=Below.gr ((Below.gr ((Below.gr (below_alloc2 w _ _) h3).alloc (by omega) _) h6).trans (hB7 _ (by omega))) h8
 clear h3 h6 hB7 hL7 h8 cm co
 by_cases hbk:b>k
 ·have HZ:=Lib.hid (t1 hbk)
  have p0:(b:Int)>(k:Int):=by omega
  clear t1 t2 hbk
  go_wp2_with (first | ((with_reducible refine here_load (d:=some 16) ?_); refine wpList_load_fv rfl _ _ rfl (w.heap.size) rfl (x) _ _ _ (BX) (FX.out) Tryz.underlying42 rfl (by kernel_rfl) ?_) | ((with_reducible refine here_store ?_); refine wpList_store_blk rfl _ _ _ rfl (w.heap.size+1) (fcs (x)) rfl rfl _ _ (BR) (by kernel_rfl) (by rfl) (fcs_one _) ?_; intro w9 hL9 hB9 hK9))
  exact bodyPost_ret (results_cell_row rfl _ _ (w.heap.size+1) _ _ (0,0) _ rfl hL9 Tryz.underlying42 rfl (by kernel_rfl)) rfl ⟨by rw [HZ.out]; rfl,hB.trans (hB9 _ (by omega))⟩
 ·have HZ:=Lib.hid (t2 hbk)
  have p0:¬ (b:Int)>(k:Int):=by omega
  clear t1 t2 hbk
  go_wp2_with (first | ((with_reducible refine here_load (d:=some 17) ?_); refine wpList_load_fv rfl _ _ rfl (w3.heap.size) rfl (s) _ _ _ (BS) (fv_fcs s) Tryz.underlying42 rfl (by kernel_rfl) ?_) | ((with_reducible refine here_store ?_); refine wpList_store_blk rfl _ _ _ rfl (w.heap.size+1) (fcs (s)) rfl rfl _ _ (BR) (by kernel_rfl) (by rfl) (fcs_one _) ?_; intro w9 hL9 hB9 hK9))
  exact bodyPost_ret (results_cell_row rfl _ _ (w.heap.size+1) _ _ (0,0) _ rfl hL9 Tryz.underlying42 rfl (by kernel_rfl)) rfl ⟨by rw [HZ.out]; rfl,hB.trans (hB9 _ (by omega))⟩
set_option maxHeartbeats 1000000 in
theorem norm_any (w:World) (x:Nat) (hx:x<(2^256)):Calls Tryz.prog 116 #[fv x] w λe w'=>e=.returned (fv (x%pM))∧Below w.heap.size w w':=by
 obtain ⟨z,hz⟩:∃ z,z=x%pM:=⟨_,rfl⟩
 have cr:=λw=>reduce_at w x 0 z 0 rfl hx (by omega) (by omega) (by rw [hz]; rfl)
 obtain ⟨x0,x1,x2,x3,fx⟩:=words_fv x hx
 have FX:=Lib.hid fx
 rw [fx] at cr ⊢
 rw [← hz]
 clear fx hx hz
 go_enter Tryz.func116,Tryz.ntmps116
 go_wp2_with fail
 refine (cr _).mono ?_
 rintro e w1 ⟨rfl,hb1⟩
 have hg:=Below.gr (below_alloc2 w _ _) hb1
 have hR:Blk w1 (w.heap.size+1) 42 _:=Gr.blk hb1 (blk_new2 w _ _ _)
 go_wp2_with (first | ((with_reducible refine here_store ?_); refine wpList_store_blk rfl _ _ _ rfl (w.heap.size+1) (fcs (z)) rfl rfl _ _ (hR) (by kernel_rfl) (by rfl) (fcs_one _) ?_; intro w4 hL hB4 hK4))
 exact bodyPost_ret (results_cell_row rfl _ _ (w.heap.size+1) _ _ (0,0) _ rfl hL Tryz.underlying42 rfl (by kernel_rfl)) rfl ⟨rfl,hg.trans (hB4 _ (by omega))⟩
set_option maxHeartbeats 8000000 in
set_option maxRecDepth 100000 in
theorem bytes_any (w:World) (x:Nat) (hx:x<(2^256)):Calls Tryz.prog 75 #[fv x] w λe w'=>e=.returned (.agg ((bytesS (x%pM)).map bv).toArray)∧Below w.heap.size w w':=by
 obtain ⟨z,hz⟩:∃ z,z=x%pM:=⟨_,rfl⟩
 have hzl:z<(2^256):=by rw [hz]; exact mod_lt x
 have cn:∀ w,Calls Tryz.prog 116 #[fv x] w λe w'=>e=.returned (fv z)∧Below w.heap.size w w':=by
  intro w; rw [hz]; exact norm_any w x hx
 rw [← hz]
 obtain ⟨z0,z1,z2,z3,a0,a1,a2,a3,ez,fz⟩:=words_of z hzl
 have HZ:=Lib.hid (And.intro a0 (And.intro a1 (And.intro a2 (And.intro a3 ez))))
 have FZ:=Lib.hid fz
 obtain ⟨x0,x1,x2,x3,fx⟩:=words_fv x hx
 rw [fx] at cn ⊢
 clear fx fz hz hzl a0 a1 a2 a3 ez hx
 have hZB:Hid ((List.replicate 32 (Value.int .u8 0)).toArray=((partB z 0).map bv).toArray):=Lib.hid (by simp [partB,lowB,bv])
 go_enter Tryz.func75,Tryz.ntmps75
 go_wp2_with fail
 refine (cn _).mono ?_
 rintro e w1 ⟨rfl,hb⟩
 have BR:Blk w1 (w.heap.size+1) 22 _:=Gr.blk hb (Blk.alloc (blk_new2 w _ _ _) _)
 have BB:Blk w1 (w.heap.size+2) 22 ((partB z 0).map bv).toArray:=Blk.eq_ (Gr.blk hb (blk_new3 w _ _ _ _)) hZB.out
 have hB:=Below.gr (below_alloc3 w _ _ _) hb
 have sz:=BB.lt
 clear hb cn
 go_wp2_with (first | ((with_reducible refine here_store ?_); refine wpList_store_blk rfl _ _ _ rfl (w1.heap.size) (fcs (z)) rfl rfl _ _ (Blk.new w1 _ _) (by kernel_rfl) (by rfl) (fcs_one _) ?_; intro w2 hL2 hB2 hK2; have CR:=hK2 _ (by omega) _ _ (BR.alloc _); have CB:=hK2 _ (by omega) _ _ (BB.alloc _); have hC:=(hB.alloc (by omega) _).trans (hB2 _ (by omega))))
 go_loopw [8] (λi wr=>∃ k:Nat,k≤32∧i=.int .i64 (k:Int)∧Below w.heap.size w wr∧Blk wr (w.heap.size+2) 22 ((partB z k).map bv).toArray∧Blk wr w1.heap.size 42 #[.int .u64 (z0:Int),.int .u64 (z1:Int),.int .u64 (z2:Int),.int .u64 (z3:Int)]∧Blk wr (w.heap.size+1) 22 (List.replicate 32 (Value.int .u8 0)).toArray) (λi _=>32 - (intOf i).toNat)
 case atStart=>exact ⟨0,by omega,rfl,hC,CB,hL2.eq_ (fcs_words FZ.out),CR⟩
 case round =>
  obtain ⟨k,hk,rfl,hb,hP,hN,hR⟩:=hrel
  by_cases hlt:k<32
  ·have ce:∀ j,j<32→∃ v,wr.cell? ⟨w.heap.size+1+1,j,none⟩=some v:=λj hj=>⟨_,(hP.cell j).trans (Array.getElem?_eq_getElem (by simp [partB_length z k hk]; exact hj))⟩
   obtain ⟨v,hv⟩:=ce (31 - k) (by omega)
   have ff:=hP.frozen (31 - k)
   have q0:wr.cell? ⟨w1.heap.size,0,none⟩=some (.int .u64 (z0:Int)):=hN.cell 0
   have q1:wr.cell? ⟨w1.heap.size,1,none⟩=some (.int .u64 (z1:Int)):=hN.cell 1
   have q2:wr.cell? ⟨w1.heap.size,2,none⟩=some (.int .u64 (z2:Int)):=hN.cell 2
   have q3:wr.cell? ⟨w1.heap.size,3,none⟩=some (.int .u64 (z3:Int)):=hN.cell 3
   have hPn:=hP.set_ (31 - k) (bv (byteN z k))
   rw [partB_set z k hlt] at hPn
   have HP:=Lib.hid hPn
   clear hPn ce
   have HR:=Lib.hid (And.intro hb (And.intro hN hR))
   clear hb hP hN hR hk
   have hsz:w.heap.size+2<w1.heap.size:=sz
   rcases (show k=0∨k=1∨k=2∨k=3∨k=4∨k=5∨k=6∨k=7∨k=8∨k=9∨k=10∨k=11∨k=12∨k=13∨k=14∨k=15∨k=16∨k=17∨k=18∨k=19∨k=20∨k=21∨k=22∨k=23∨k=24∨k=25∨k=26∨k=27∨k=28∨k=29∨k=30∨k=31 by omega) with rfl | rfl | rfl | rfl | rfl | rfl | rfl | rfl | rfl | rfl | rfl | rfl | rfl | rfl | rfl | rfl | rfl | rfl | rfl | rfl | rfl | rfl | rfl | rfl | rfl | rfl | rfl | rfl | rfl | rfl | rfl | rfl
   all_goals
    go_wp2
    obtain ⟨a0,a1,a2,a3,ez⟩:=HZ.out
    refine ⟨⟨_,by decide,rfl,HR.out.1.setCell (by show w.heap.size≤w.heap.size+1+1; omega) _,HP.out.val (by rw [bv_byteN]; congr 1; omega),HR.out.2.1.far (by show w1.heap.size≠w.heap.size+1+1; omega) _,HR.out.2.2.far (by show w.heap.size+1≠w.heap.size+1+1; omega) _⟩,by simp [intOf]⟩
  ·have p1:¬ (k:Int)<32:=by omega
   obtain rfl:k=32:=by omega
   rw [partB_full] at hP
   have HI:=Lib.hid (bytesS_length z)
   have HL:=Lib.hid hP
   have HR:=Lib.hid hR
   clear hN hP hR
   go_wp2_with (first | ((with_reducible refine here_load (d:=some 24) ?_); refine wpList_load_blk rfl _ _ rfl (w.heap.size+2) rfl _ _ _ HL.out Tryz.underlying22 rfl (b32_info HI.out) ?_) | ((with_reducible refine here_store ?_); refine wpList_store_blk rfl _ _ _ rfl (w.heap.size+1) ((bytesS z).map bv).toArray rfl rfl _ _ HR.out (b32_info HI.out) (by simp [HI.out]) (b32_one _) ?_; intro w9 hL9 hB9 hK9))
   exact bodyPost_ret (results_cell_row rfl _ _ (w.heap.size+1) _ _ (0,0) _ rfl hL9 Tryz.underlying22 rfl (b32_info HI.out)) rfl ⟨rfl,hb.trans (hB9 _ (by omega))⟩
end Sc
end
section
section
open Go.RowKit Go.Lib
set_option maxHeartbeats 8000000 in
set_option maxRecDepth 100000 in
theorem bytes_any (w:World) (x:Nat) (hx:x<(2^256)):Calls Tryz.prog 213 #[fv x] w λe w'=>e=.returned (.agg ((bytesS (x%pM)).map bv).toArray)∧Below w.heap.size w w':=by
 obtain ⟨z,hz⟩:∃ z,z=x%pM:=⟨_,rfl⟩
 have hzl:z<(2^256):=by rw [hz]; exact mod_lt x
 have cn:∀ w,Calls Tryz.prog 215 #[fv x] w λe w'=>e=.returned (fv z)∧Below w.heap.size w w':=by
  intro w; rw [hz]; exact norm_any w x hx
 rw [← hz]
 obtain ⟨z0,z1,z2,z3,a0,a1,a2,a3,ez,fz⟩:=words_of z hzl
 have HZ:=Lib.hid (And.intro a0 (And.intro a1 (And.intro a2 (And.intro a3 ez))))
 have FZ:=Lib.hid fz
 obtain ⟨x0,x1,x2,x3,fx⟩:=words_fv x hx
 rw [fx] at cn ⊢
 clear fx fz hz hzl a0 a1 a2 a3 ez hx
 have hZB:Hid ((List.replicate 32 (Value.int .u8 0)).toArray=((partB z 0).map bv).toArray):=Lib.hid (by simp [partB,lowB,bv])
 go_enter Tryz.func213,Tryz.ntmps213
 go_wp2_with fail
 refine (cn _).mono ?_
 rintro e w1 ⟨rfl,hb⟩
 have BR:Blk w1 (w.heap.size+1) 22 _:=Gr.blk hb (Blk.alloc (blk_new2 w _ _ _) _)
 have BB:Blk w1 (w.heap.size+2) 22 ((partB z 0).map bv).toArray:=Blk.eq_ (Gr.blk hb (blk_new3 w _ _ _ _)) hZB.out
 have hB:=Below.gr (below_alloc3 w _ _ _) hb
 have sz:=BB.lt
 clear hb cn
 go_wp2_with (first | ((with_reducible refine here_store ?_); refine wpList_store_blk rfl _ _ _ rfl (w1.heap.size) (fcs (z)) rfl rfl _ _ (Blk.new w1 _ _) (by kernel_rfl) (by rfl) (fcs_one _) ?_; intro w2 hL2 hB2 hK2; have CR:=hK2 _ (by omega) _ _ (BR.alloc _); have CB:=hK2 _ (by omega) _ _ (BB.alloc _); have hC:=(hB.alloc (by omega) _).trans (hB2 _ (by omega))))
 go_loopw [8] (λi wr=>∃ k:Nat,k≤32∧i=.int .i64 (k:Int)∧Below w.heap.size w wr∧Blk wr (w.heap.size+2) 22 ((partB z k).map bv).toArray∧Blk wr w1.heap.size 46 #[.int .u64 (z0:Int),.int .u64 (z1:Int),.int .u64 (z2:Int),.int .u64 (z3:Int)]∧Blk wr (w.heap.size+1) 22 (List.replicate 32 (Value.int .u8 0)).toArray) (λi _=>32 - (intOf i).toNat)
 case atStart=>exact ⟨0,by omega,rfl,hC,CB,hL2.eq_ (fcs_words FZ.out),CR⟩
 case round =>
  obtain ⟨k,hk,rfl,hb,hP,hN,hR⟩:=hrel
  by_cases hlt:k<32
  ·have ce:∀ j,j<32→∃ v,wr.cell? ⟨w.heap.size+1+1,j,none⟩=some v:=λj hj=>⟨_,(hP.cell j).trans (Array.getElem?_eq_getElem (by simp [partB_length z k hk]; exact hj))⟩
   obtain ⟨v,hv⟩:=ce (31 - k) (by omega)
   have ff:=hP.frozen (31 - k)
   have q0:wr.cell? ⟨w1.heap.size,0,none⟩=some (.int .u64 (z0:Int)):=hN.cell 0
   have q1:wr.cell? ⟨w1.heap.size,1,none⟩=some (.int .u64 (z1:Int)):=hN.cell 1
   have q2:wr.cell? ⟨w1.heap.size,2,none⟩=some (.int .u64 (z2:Int)):=hN.cell 2
   have q3:wr.cell? ⟨w1.heap.size,3,none⟩=some (.int .u64 (z3:Int)):=hN.cell 3
   have hPn:=hP.set_ (31 - k) (bv (byteN z k))
   rw [partB_set z k hlt] at hPn
   have HP:=Lib.hid hPn
   clear hPn ce
   have HR:=Lib.hid (And.intro hb (And.intro hN hR))
   clear hb hP hN hR hk
   have hsz:w.heap.size+2<w1.heap.size:=sz
   rcases (show k=0∨k=1∨k=2∨k=3∨k=4∨k=5∨k=6∨k=7∨k=8∨k=9∨k=10∨k=11∨k=12∨k=13∨k=14∨k=15∨k=16∨k=17∨k=18∨k=19∨k=20∨k=21∨k=22∨k=23∨k=24∨k=25∨k=26∨k=27∨k=28∨k=29∨k=30∨k=31 by omega) with rfl | rfl | rfl | rfl | rfl | rfl | rfl | rfl | rfl | rfl | rfl | rfl | rfl | rfl | rfl | rfl | rfl | rfl | rfl | rfl | rfl | rfl | rfl | rfl | rfl | rfl | rfl | rfl | rfl | rfl | rfl | rfl
   all_goals
    go_wp2
    obtain ⟨a0,a1,a2,a3,ez⟩:=HZ.out
    refine ⟨⟨_,by decide,rfl,HR.out.1.setCell (by show w.heap.size≤w.heap.size+1+1; omega) _,HP.out.val (by rw [bv_byteN]; congr 1; omega),HR.out.2.1.far (by show w1.heap.size≠w.heap.size+1+1; omega) _,HR.out.2.2.far (by show w.heap.size+1≠w.heap.size+1+1; omega) _⟩,by simp [intOf]⟩
  ·have p1:¬ (k:Int)<32:=by omega
   obtain rfl:k=32:=by omega
   rw [partB_full] at hP
   have HI:=Lib.hid (bytesS_length z)
   have HL:=Lib.hid hP
   have HR:=Lib.hid hR
   clear hN hP hR
   go_wp2_with (first | ((with_reducible refine here_load (d:=some 24) ?_); refine wpList_load_blk rfl _ _ rfl (w.heap.size+2) rfl _ _ _ HL.out Tryz.underlying22 rfl (b32_info HI.out) ?_) | ((with_reducible refine here_store ?_); refine wpList_store_blk rfl _ _ _ rfl (w.heap.size+1) ((bytesS z).map bv).toArray rfl rfl _ _ HR.out (b32_info HI.out) (by simp [HI.out]) (b32_one _) ?_; intro w9 hL9 hB9 hK9))
   exact bodyPost_ret (results_cell_row rfl _ _ (w.heap.size+1) _ _ (0,0) _ rfl hL9 Tryz.underlying22 rfl (b32_info HI.out)) rfl ⟨rfl,hb.trans (hB9 _ (by omega))⟩
end
end
section
section
open Go.RowKit Go.Lib
end
end
section
section
open Go.RowKit Go.Lib
end
end
section
section
open Go.RowKit Go.Lib
end
end
section
namespace Cu
open Go.RowKit Sy
set_option maxRecDepth 100000
set_option maxHeartbeats 4000000
theorem key_whole (l:List UInt8) {n:Nat} (hl:l.length=n):Value.agg (((l.map bv).toArray.toList.drop 0).take n).toArray=.agg (l.map bv).toArray:=by
 rw [List.drop_zero,List.take_of_length_le (by simp; omega)]
theorem key_size (l:List UInt8) {n:Nat} (hl:l.length=n):0+n≤(l.map bv).toArray.size:=by simp; omega
theorem key_at (l:List UInt8) {n:Nat} (hl:l.length=n) (k:Nat) (hk:k<n):(l.map bv).toArray[k]? = some (bv (l.getD k 0)):=by
 have:k<l.length:=by omega
 simp [List.getD,this]
end Cu
end
section
namespace Cu
open Go.RowKit Sy
set_option maxRecDepth 100000
set_option maxHeartbeats 4000000
def dg (m j:Nat):Nat:=m / 16 ^ (63 - j)%16
def dgA (m j:Nat):List Value:=[.int .u8 ((dg m j:Nat):Int)]
theorem dgA_len (m:Nat):∀ j,(dgA m j).length=1:=λ_=>rfl
theorem byte_get (m k:Nat) (hk:k<32):((bytesS m).getD k 0).toNat=m / 2 ^ (8*(31 - k))%256:=by
 have h:∀ n j,j<n→(lowB m n).getD j 0=byteN m (n - 1 - j):=by
  intro n
  induction n with
  | zero=>intro j hj; omega
  | succ n ih =>
   intro j hj
   cases j with
   | zero=>rfl
   | succ j =>
    show (lowB m n).getD j 0=_
    rw [ih j (by omega)]
    congr 1
    omega
 unfold bytesS
 rw [h 32 k hk,show 32 - 1 - k=31 - k by omega]
 unfold byteN
 rw [UInt8.toNat_ofNat']
 omega
theorem p16 (k:Nat):(2:Nat) ^ (8*k)=16 ^ (2*k):=by
 rw [show 8*k=4*(2*k) by omega,Nat.pow_mul]
theorem dg_hi (m k:Nat) (hk:k<32):((bytesS m).getD k 0).toNat / 16=dg m (2*k):=by
 rw [byte_get m k hk,p16]
 unfold dg
 rw [show 63 - 2*k=2*(31 - k)+1 by omega,Nat.pow_succ, ← Nat.div_div_eq_div_mul]
 omega
theorem dg_lo (m k:Nat) (hk:k<32):((bytesS m).getD k 0).toNat%16=dg m (2*k+1):=by
 rw [byte_get m k hk,p16]
 unfold dg
 rw [show 63 - (2*k+1)=2*(31 - k) by omega]
 omega
theorem exec_hi (F:Slots) (o:Oper) (t:TypeId) (x y:Operand) {yt:TypeId} (b:UInt8) (d:Nat) (ho:o.op=.binOp .shr t x y yt) (hx:evF F x=bv b) (hy:evF F y=.int .u64 4) (h:b.toNat / 16=d) (w:World):(execOp (evF F) o).run Tryz.prog w=.ok (.value (.int .u8 ((d:Nat):Int))) w :=
 exec_int .shr t x y .u8 (b.toNat:Int) 4 _ ho hx hy (int_shr t .u8 .u64 _ _ _ (by decide) (by
  show Int.fdiv (b.toNat:Int) ((16:Nat):Int)=_
  rw [← h,Int.fdiv_eq_ediv_of_nonneg _ (by omega)]
  omega)) w
theorem and15:∀ n:Fin 256,IntKind.u8.wrap ((BitVec.ofInt 8 ((n.val:Nat):Int) &&& BitVec.ofInt 8 15).toNat:Int)=((n.val%16:Nat):Int):=by decide +kernel
theorem exec_lo (F:Slots) (o:Oper) (t:TypeId) (x y:Operand) {yt:TypeId} (b:UInt8) (d:Nat) (ho:o.op=.binOp .and t x y yt) (hx:evF F x=bv b) (hy:evF F y=.int .u8 15) (h:b.toNat%16=d) (w:World):(execOp (evF F) o).run Tryz.prog w=.ok (.value (.int .u8 ((d:Nat):Int))) w :=
 exec_int .and t x y .u8 (b.toNat:Int) 15 _ ho hx hy (int_and t .u8 _ _ _ (by
  rw [← h]
  exact and15 ⟨b.toNat,b.toNat_lt⟩)) w
theorem digits_c (w:World) (x:Nat) (hx:x<K4):Calls Tryz.prog 231 #[fv x] w (Gets w (.agg (flat (dgA (x%Sc.pM)) 64).toArray)):=by
 obtain ⟨m,hm⟩:∃ m,m=x%Sc.pM:=⟨_,rfl⟩
 obtain ⟨l,hl0⟩:∃ l,l=bytesS m:=⟨_,rfl⟩
 have hl:l.length=32:=by rw [hl0]; exact bytesS_length m
 have cB:∀ w,Calls Tryz.prog 75 #[fv x] w (Gets w (.agg (l.map bv).toArray)):=λw=>by rw [hl0,hm]; exact Sc.bytes_any w x hx
 rw [← hm]
 refine Sy.enter (args:=[fv x]) Tryz.func231 rfl kL ?_
 refine sC ?_
 refine sM 42 (fcs x) (λg0=>?_)
 refine Sy.make kR 256 (flat (λ_=>[.int .u8 0]) 64).toArray ptr kF (λg1=>?_)
 refine sA ?_
 refine Sy.make kR 256 (flat (λ_=>[.int .u8 0]) 64).toArray ptr kF (λg2=>?_)
 refine sG<|Sy.seq<|sC ?_
 refine sS (fv x) (qL 0 g0 0 4 42 42 (fcs x) rfl Tryz.underlying42)<|sS (.agg (l.map bv).toArray) (qF 75 #[fv x] (cB))<|sP (.int .i64 0) ?_
 refine sG<|Sy.block ?_
 refine Sy.loopK 32 (λk1=>[(2,.pointer (some ⟨g1,0,none⟩)),(3,.pointer (some ⟨g2,0,none⟩)),(7,.agg (l.map bv).toArray),(8,.int .i64 ((k1:Nat):Int))]) (λk1=>[(g1,256,(flat (λ_=>[.int .u8 0]) 64).toArray),(g2,256,(flat (upto (2*k1) (dgA m) [.int .u8 0]) 64).toArray)]) [false,true,true] (M:=[(g1,256,(flat (λ_=>[.int .u8 0]) 64).toArray),(g2,256,(flat (λ_=>[.int .u8 0]) 64).toArray)]) (all_cons kR (all_cons kR (all_cons kR (all_cons kR all_nil)))) kR (bcons rfl (bcons (beq (upto_zero)) rfl)) (λk1 hk1=>?_)
 refine sC ?_
 obtain ⟨b1,hb1⟩:∃ z:Bool,z=decide (k1<32):=⟨_,rfl⟩
 refine sS (.bool b1) (Quiet.pure (exec_int .lss _ _ _ .i64 _ _ _ rfl rfl rfl (int_lss _ _ _ _ _ (by rw [hb1]; exact decide_eq_decide.2 (by omega))))) ?_
 refine sG<|Sy.seq ?_
 cases b1
 ·have lb1:¬ (k1<32):=of_decide_eq_false hb1.symm
  refine sU<|Sy.exit<|Sy.then_exit<|Sy.then_exit ?_
  obtain rfl:k1=32:=by omega
  refine Sy.in_exit<|sB ?_
  refine sS (.agg (flat (upto (2*32) (dgA m) [.int .u8 0]) 64).toArray) (Quiet.load 1 g2 0 64 256 256 (flat (upto (2*32) (dgA m) [.int .u8 0]) 64).toArray _ _ rfl kR kR Tryz.underlying256 rfl kR _ (flat_whole (upto_len (dgA_len m) rfl _) rfl) (flat_wsize (upto_len (dgA_len m) rfl _) rfl)) ?_
  refine Sy.write kR 0 g1 256 (flat (λ_=>[.int .u8 0]) 64).toArray (flat (upto (2*32) (dgA m) [.int .u8 0]) 64).toArray kR (Writes.store 0 256 (flat (upto (2*32) (dgA m) [.int .u8 0]) 64).toArray _ _ rfl kR kR (flat_info (upto_len (dgA_len m) rfl _) kR) (flat_over (upto_len (dgA_len m) rfl _) rfl kR) (flat_one (upto_len (dgA_len m) rfl _) _ (upto_one (λ_ u hu=>by rw [List.mem_singleton.1 hu]; rfl) (λu hu=>by rw [List.mem_singleton.1 hu]; rfl) _)) (flat_put (upto_len (dgA_len m) rfl _) kR)) ?_
  refine sG<|Sy.ret ?_
  rw [show (.agg (flat (dgA m) 64).toArray:Value)=.agg (flat (upto (2*32) (dgA m) [.int .u8 0]) 64).toArray from congrArg Value.agg upto_all.symm]
  exact Sy.ret1 rfl (v:=.agg (flat (upto (2*32) (dgA m) [.int .u8 0]) 64).toArray) (.inl (Res.cell (ty':=256) g1 0 (flat (upto (2*32) (dgA m) [.int .u8 0]) 64).toArray _ kR kR Tryz.underlying256 rfl (flat_info (upto_len (dgA_len m) rfl _) kR) rfl))
 ·have lb1:k1<32:=of_decide_eq_true hb1.symm
  refine sT<|Sy.skip<|Sy.then_<|Sy.seq<|Sy.block<|sC ?_
  refine sP (.int .i64 ((k1:Nat):Int))<|sS (bv (l.getD k1 0)) (Quiet.pure (exec_idx _ _ _ _ _ 32 k1 .i64 _ _ rfl rfl rfl Tryz.underlying22 Tryz.underlying5 rfl kF (by omega) (key_at l hl k1 (by omega))))<|sP (.int .i64 ((k1:Nat):Int))<|sP (bv (l.getD k1 0)) ?_
  refine sG<|Sy.region ?_
  refine sP (.int .i64 ((k1:Nat):Int))<|sS (.int .i64 ((2*k1:Nat):Int)) (Quiet.pure (exec_int .mul _ _ _ .i64 _ _ _ rfl rfl rfl (int_mul _ _ _ _ _ ((wrap_i64 (by omega) (by omega)).trans (by omega)))))<|sP (.int .i64 ((k1:Nat):Int))<|sS (.int .i64 ((2*k1:Nat):Int)) (Quiet.pure (exec_int .mul _ _ _ .i64 _ _ _ rfl rfl rfl (int_mul _ _ _ _ _ ((wrap_i64 (by omega) (by omega)).trans (by omega)))))<|sS (.int .i64 (((2*k1)+1:Nat):Int)) (Quiet.pure (exec_int .add _ _ _ .i64 _ _ _ rfl rfl rfl (int_add _ _ _ _ _ ((wrap_i64 (by omega) (by omega)).trans (by omega)))))<|sP (bv (l.getD k1 0))<|sS (.int .u8 ((dg m (2*k1):Nat):Int)) (Quiet.pure (exec_hi _ _ _ _ _ (l.getD k1 0) _ rfl rfl rfl (by rw [hl0]; exact dg_hi m k1 (by omega))))<|sP (bv (l.getD k1 0)) ?_
  refine sS (.int .u8 ((dg m (2*k1+1):Nat):Int)) (Quiet.pure (exec_lo _ _ _ _ _ (l.getD k1 0) _ rfl rfl rfl (by rw [hl0]; exact dg_lo m k1 (by omega))))<|sS (.pointer (some ⟨g2,0+(2*k1)*1,none⟩)) (Quiet.pure (exec_atA 256 _ _ _ g2 0 _ (2*k1) 1 .i64 rfl rfl rfl Tryz.underlying256 kF (by omega))) ?_
  refine Sy.write kR 1 g2 256 (flat (upto (2*k1) (dgA m) [.int .u8 0]) 64).toArray (flat (upto (2*k1+1) (dgA m) [.int .u8 0]) 64).toArray kR (Writes.one (0+(2*k1)*1) 5 (.int .u8 ((dg m (2*k1):Nat):Int)) _ _ rfl kR kR kR rfl rfl (flat_lt1 (upto_len (dgA_len m) rfl _) (k:=2*k1) (by omega) (by omega)) ((congrArg (Array.setIfInBounds _ · _) (show 0+(2*k1)*1=2*k1 by omega)).trans (upto_set1 (dgA_len m) (rfl) (by omega)))) ?_
  refine sS (.pointer (some ⟨g2,0+((2*k1)+1)*1,none⟩)) (Quiet.pure (exec_atA 256 _ _ _ g2 0 _ ((2*k1)+1) 1 .i64 rfl rfl rfl Tryz.underlying256 kF (by omega))) ?_
  refine Sy.write kR 1 g2 256 (flat (upto (2*k1+1) (dgA m) [.int .u8 0]) 64).toArray (flat (upto (2*k1+1+1) (dgA m) [.int .u8 0]) 64).toArray kR (Writes.one (0+((2*k1)+1)*1) 5 (.int .u8 ((dg m (2*k1+1):Nat):Int)) _ _ rfl kR kR kR rfl rfl (flat_lt1 (upto_len (dgA_len m) rfl _) (k:=2*k1+1) (by omega) (by omega)) ((congrArg (Array.setIfInBounds _ · _) (show 0+((2*k1)+1)*1=2*k1+1 by omega)).trans (upto_set1 (dgA_len m) (rfl) (by omega)))) ?_
  refine Sy.nil<|Sy.in_<|Sy.then_<|Sy.region ?_
  refine sS (.int .i64 ((k1+1:Nat):Int)) (Quiet.pure (exec_int .add _ _ _ .i64 _ _ _ rfl rfl rfl (int_add _ _ _ _ _ ((wrap_i64 (by omega) (by omega)).trans (by omega)))))<|sP (.int .i64 ((k1+1:Nat):Int)) ?_
  refine Sy.nil ?_
  exact Sy.againK [true,true] (M:=[(g1,256,(flat (λ_=>[.int .u8 0]) 64).toArray),(g2,256,(flat (upto (2*k1+1+1) (dgA m) [.int .u8 0]) 64).toArray)]) (by omega) (all_cons kR (all_cons kR (all_cons kR (all_cons kR all_nil)))) kR (bcons rfl (bcons (beq (congrArg (λt=>(flat (upto t (dgA m) [.int .u8 0]) 64).toArray) (show 2*k1+1+1=2*(k1+1) by omega))) rfl))
def tws (x y z:Nat):List Value:=fws x++(fws y++fws z)
def jws (a:J):List Value:=tws a.x.val a.y.val a.z.val
def fewL (a:J):Nat→J
 | 0=>⟨0,0,0⟩
 | k+1=>addJ (fewL a k) a
theorem fewL_rep {a:J} {P:Pt} (hP:Ec.On P) (h:Ec.Rep a P):∀ k,Ec.Rep (fewL a k) (Ec.nm finv k P)
 | 0=>rfl
 | k+1=>addJ_rep (hP.nm fld k) hP (fewL_rep hP h k) h
def fewA (a:J) (j:Nat):List Value:=jws (fewL a j)
theorem fewA_len (a:J):∀ j,(fewA a j).length=12:=λ_=>rfl
theorem few_first (a:J):(flat (λ_=>tws 0 0 0) 16).toArray=(flat (upto 1 (fewA a) (tws 0 0 0)) 16).toArray:=congrArg List.toArray (flat_congr λj _=>by
 unfold upto
 split
 ·obtain rfl:j=0:=by omega
  rfl
 ·rfl)
theorem jws_one (a:J):∀ u∈jws a,u.oneCell'=true:=λu hu=>by
 unfold jws tws fws at hu
 simp [qv] at hu
 rcases hu with rfl | rfl | rfl | rfl | rfl | rfl | rfl | rfl | rfl | rfl | rfl | rfl <;> rfl
theorem few_c (w:World) (P:Pt) (x y:Nat) (i:Bool) (hP:ptv P=pv x y i):Calls Tryz.prog 232 #[pv x y i] w (Gets w (.agg (flat (fewA (threeJ P)) 16).toArray)):=by
 obtain ⟨a,ha⟩:∃ a,a=threeJ P:=⟨_,rfl⟩
 have c3:∀ w,Calls Tryz.prog 253 #[pv x y i] w (Gets w (tv a.x.val a.y.val a.z.val)):=λw=>by
  have h:=three_c w P
  rw [hP, ← ha] at h
  exact h
 rw [← ha]
 refine Sy.enter (args:=[pv x y i]) Tryz.func232 rfl kL ?_
 refine sC ?_
 refine sM 48 (pcs x y i) (λg0=>?_)
 refine Sy.make kR 271 (flat (λ_=>tws 0 0 0) 16).toArray ptr kF (λg1=>?_)
 refine sA ?_
 refine Sy.make kR 271 (flat (λ_=>tws 0 0 0) 16).toArray ptr kF (λg2=>?_)
 refine sA ?_
 refine sS (pv x y i) (qL 0 g0 0 9 48 48 (pcs x y i) rfl Tryz.underlying48)<|sS (tv a.x.val a.y.val a.z.val) (qF 253 #[pv x y i] (c3)) ?_
 refine sM 223 (tcs 0 0 0) (λg3=>?_)
 refine sW 3 g3 223 (tcs 0 0 0) (tcs a.x.val a.y.val a.z.val) (wS 0 223 (tcs a.x.val a.y.val a.z.val) rfl) ?_
 refine sG<|Sy.seq<|sC ?_
 refine sP (.int .i64 1) ?_
 refine sG<|Sy.block ?_
 refine Sy.loopK 15 (λk1=>[(2,.pointer (some ⟨g1,0,none⟩)),(3,.pointer (some ⟨g2,0,none⟩)),(4,.pointer (some ⟨g3,0,none⟩)),(5,.int .i64 ((k1+1:Nat):Int))]) (λk1=>[(g1,271,(flat (λ_=>tws 0 0 0) 16).toArray),(g2,271,(flat (upto (k1+1) (fewA a) (tws 0 0 0)) 16).toArray),(g3,223,(tcs a.x.val a.y.val a.z.val))]) [false,true,true,true] (M:=[(g1,271,(flat (λ_=>tws 0 0 0) 16).toArray),(g2,271,(flat (λ_=>tws 0 0 0) 16).toArray),(g3,223,(tcs a.x.val a.y.val a.z.val))]) (all_cons kR (all_cons kR (all_cons kR (all_cons kR all_nil)))) kR (bcons rfl (bcons (beq (few_first a)) (bcons rfl rfl))) (λk1 hk1=>?_)
 refine Sy.seq<|sC ?_
 refine sP (.int .i64 ((k1+1:Nat):Int)) ?_
 obtain ⟨b1,hb1⟩:∃ z:Bool,z=decide (k1+1<16):=⟨_,rfl⟩
 refine sS (.bool b1) (Quiet.pure (exec_int .lss _ _ _ .i64 _ _ _ rfl rfl rfl (int_lss _ _ _ _ _ (by rw [hb1]; exact decide_eq_decide.2 (by omega))))) ?_
 refine sG ?_
 cases b1
 ·have lb1:¬ (k1+1<16):=of_decide_eq_false hb1.symm
  refine sU<|Sy.exit<|Sy.then_exit<|Sy.then_exit ?_
  obtain rfl:k1=15:=by omega
  refine Sy.in_exit<|sB ?_
  refine sS (.agg (flat (upto (15+1) (fewA a) (tws 0 0 0)) 16).toArray) (Quiet.load 1 g2 0 192 271 271 (flat (upto (15+1) (fewA a) (tws 0 0 0)) 16).toArray _ _ rfl kR kR Tryz.underlying271 rfl kR _ (flat_whole (upto_len (fewA_len a) rfl _) rfl) (flat_wsize (upto_len (fewA_len a) rfl _) rfl)) ?_
  refine Sy.write kR 0 g1 271 (flat (λ_=>tws 0 0 0) 16).toArray (flat (upto (15+1) (fewA a) (tws 0 0 0)) 16).toArray kR (Writes.store 0 271 (flat (upto (15+1) (fewA a) (tws 0 0 0)) 16).toArray _ _ rfl kR kR (flat_info (upto_len (fewA_len a) rfl _) kR) (flat_over (upto_len (fewA_len a) rfl _) rfl kR) (flat_one (upto_len (fewA_len a) rfl _) _ (upto_one (λ_=>jws_one _) (jws_one ⟨0,0,0⟩) _)) (flat_put (upto_len (fewA_len a) rfl _) kR)) ?_
  refine sG<|Sy.ret ?_
  rw [show (.agg (flat (fewA a) 16).toArray:Value)=.agg (flat (upto (15+1) (fewA a) (tws 0 0 0)) 16).toArray from congrArg Value.agg upto_all.symm]
  exact Sy.ret1 rfl (v:=.agg (flat (upto (15+1) (fewA a) (tws 0 0 0)) 16).toArray) (.inl (Res.cell (ty':=271) g1 0 (flat (upto (15+1) (fewA a) (tws 0 0 0)) 16).toArray _ kR kR Tryz.underlying271 rfl (flat_info (upto_len (fewA_len a) rfl _) kR) rfl))
 ·have lb1:k1+1<16:=of_decide_eq_true hb1.symm
  refine sT<|Sy.skip<|Sy.then_<|Sy.seq<|Sy.block ?_
  refine Sy.regionD (λj=>j == 8) kR ?_
  refine sZ 0 rfl (.int .i64 ((k1+1:Nat):Int))<|sZ 1 rfl (.int .i64 ((k1+1:Nat):Int))<|sD 2 rfl (.int .i64 (((k1+1) - 1:Nat):Int)) (Quiet.pure (exec_int .sub _ _ _ .i64 _ _ _ rfl rfl rfl (int_sub _ _ _ _ _ ((wrap_i64 (by omega) (by omega)).trans (by omega)))))<|sD 3 rfl (.pointer (some ⟨g2,0+((k1+1) - 1)*12,none⟩)) (Quiet.pure (exec_atA 271 _ _ _ g2 0 _ ((k1+1) - 1) 12 .i64 rfl rfl rfl Tryz.underlying271 kF (by omega)))<|sD 4 rfl (tv ((fewL a ((k1+1) - 1)).x.val) ((fewL a ((k1+1) - 1)).y.val) ((fewL a ((k1+1) - 1)).z.val)) (Quiet.load 1 g2 (0+((k1+1) - 1)*12) 12 271 223 (flat (upto (k1+1) (fewA a) (tws 0 0 0)) 16).toArray _ _ rfl kR kR Tryz.underlying223 rfl kR _ ((flat_load (upto_len (fewA_len a) rfl _) (k:=(k1+1) - 1) (by omega) (by omega)).trans ((congrArg (λl:List Value=>Value.agg l.toArray) (upto_lt (by omega))).trans kR)) (flat_fit (upto_len (fewA_len a) rfl _) (k:=(k1+1) - 1) (by omega) (by omega)))<|sD 5 rfl (tv a.x.val a.y.val a.z.val) (qL 2 g3 0 12 223 223 (tcs a.x.val a.y.val a.z.val) rfl Tryz.underlying223) ?_
  obtain ⟨j1,hj1⟩:∃ z:J,z=addJ (fewL a ((k1+1) - 1)) a:=⟨_,rfl⟩
  refine sD 6 rfl (tv j1.x.val j1.y.val j1.z.val) (qF 190 #[tv ((fewL a ((k1+1) - 1)).x.val) ((fewL a ((k1+1) - 1)).y.val) ((fewL a ((k1+1) - 1)).z.val),tv a.x.val a.y.val a.z.val] (λw=>by rw [hj1]; exact addJ_c w (fewL a ((k1+1) - 1)) a))<|sD 7 rfl (.pointer (some ⟨g2,0+(k1+1)*12,none⟩)) (Quiet.pure (exec_atA 271 _ _ _ g2 0 _ (k1+1) 12 .i64 rfl rfl rfl Tryz.underlying271 kF (by omega))) ?_
  refine Sy.writeD 8 rfl kR (by rfl) kR 1 g2 271 (flat (upto (k1+1) (fewA a) (tws 0 0 0)) 16).toArray (flat (upto (k1+1+1) (fewA a) (tws 0 0 0)) 16).toArray kR (Writes.store (0+(k1+1)*12) 223 (tcs j1.x.val j1.y.val j1.z.val) _ _ rfl kR kR kR (flat_fit (upto_len (fewA_len a) rfl _) (k:=k1+1) (by omega) (by omega)) kR (upto_set (v:=(tcs j1.x.val j1.y.val j1.z.val).toList) (fewA_len a) rfl (by rw [hj1]; rfl) (by omega) (by omega))) ?_
  refine sE ?_
  refine Sy.in_<|Sy.then_<|Sy.region ?_
  refine sP (.int .i64 ((k1+1:Nat):Int))<|sS (.int .i64 (((k1+1)+1:Nat):Int)) (Quiet.pure (exec_int .add _ _ _ .i64 _ _ _ rfl rfl rfl (int_add _ _ _ _ _ ((wrap_i64 (by omega) (by omega)).trans (by omega)))))<|sP (.int .i64 (((k1+1)+1:Nat):Int)) ?_
  refine Sy.nil ?_
  exact Sy.againK [true,true,true] (M:=[(g1,271,(flat (λ_=>tws 0 0 0) 16).toArray),(g2,271,(flat (upto (k1+1+1) (fewA a) (tws 0 0 0)) 16).toArray),(g3,223,(tcs a.x.val a.y.val a.z.val))]) (by omega) (all_cons kR (all_cons kR (all_cons kR (all_cons kR all_nil)))) kR (bcons rfl (bcons rfl (bcons rfl rfl)))
end Cu
end
section
namespace Cu
open Go.RowKit Sy
set_option maxRecDepth 100000
set_option maxHeartbeats 4000000
structure Trm where
 k:Nat
 x:Nat
 y:Nat
 i:Bool
def trcs (k x y:Nat) (i:Bool):Array Value:=(fws k++(fws x++(fws y++[Value.bool i]))).toArray
def trv (k x y:Nat) (i:Bool):Value:=.agg (trcs k x y i)
def Trm.cells (t:Trm):List Value:=fws t.k++(fws t.x++(fws t.y++[Value.bool t.i]))
def Trm.ok (t:Trm):Prop:=t.k<K4∧t.x<K4∧t.y<K4
def Trm.pt (t:Trm):Pt:=dec t.x t.y t.i
def Trm.kn (t:Trm):Nat:=t.k%Sc.pM
def tmA (t:Trm):List Value:=flat (dgA t.kn) 64++flat (fewA (threeJ t.pt)) 16
def tmcs (t:Trm):Array Value:=(tmA t).toArray
theorem tmA_len (T:Nat→Trm):∀ j,(tmA (T j)).length=256:=λ_=>by
 unfold tmA
 rw [List.length_append,flat_len (dgA_len _),flat_len (fewA_len _)]
def zt:List Value:=List.replicate 64 (.int .u8 0)++List.replicate 192 (.int .u64 0)
noncomputable def infTm:TypeInfo:=(Tryz.prog.info? 274).getD default
theorem info_tm:Tryz.prog.info? 274=some infTm:=by kernel_rfl
theorem dg_lt (m j:Nat):dg m j<16:=Nat.mod_lt _ (by decide)
theorem few_p (w:World) (P:Pt):Calls Tryz.prog 232 #[ptv P] w (Gets w (.agg (flat (fewA (threeJ P)) 16).toArray)):=by
 rcases P with _ | ⟨u,v⟩
 ·exact few_c w none 0 0 true rfl
 ·exact few_c w (some (u,v)) u.val v.val false rfl
def dbN (a:J):Nat→J
 | 0=>a
 | j+1=>dblJ (dbN a j)
def inJ (T:Nat→Trm) (i:Nat) (a:J):Nat→J
 | 0=>a
 | j+1=>addJ (inJ T i a j) (fewL (threeJ (T j).pt) (dg (T j).kn i))
def muJ (T:Nat→Trm) (n:Nat):Nat→J
 | 0=>⟨0,0,0⟩
 | i+1=>inJ T i (dbN (muJ T n i) 4) n
theorem at_c (w:World) (g off i:Nat) (t:Trm) (hg:g<w.heap.size) (hi:i<64) (hr:w.rangeAt g off (tmA t)):Calls Tryz.prog 233 #[.pointer (some ⟨g,off,none⟩),.int .i64 ((i:Nat):Int)] w (Gets w (tv (fewL (threeJ t.pt) (dg t.kn i)).x.val (fewL (threeJ t.pt) (dg t.kn i)).y.val (fewL (threeJ t.pt) (dg t.kn i)).z.val)):=by
 have hd:=dg_lt t.kn i
 refine Sy.enter (args:=[.pointer (some ⟨g,off,none⟩),.int .i64 ((i:Nat):Int)]) Tryz.func233 rfl kL ?_
 refine sC ?_
 refine sM 223 (tcs 0 0 0) (λg0=>?_)
 refine sH (λj=>j == 11) ?_
 refine sZ 0 rfl (.pointer (some ⟨g,off,none⟩))<|sZ 1 rfl (.pointer (some ⟨g,off,none⟩))<|sZ 2 rfl (.int .i64 ((i:Nat):Int))<|sZ 3 rfl (.pointer (some ⟨g,off,none⟩))<|sZ 4 rfl (.pointer (some ⟨g,off,none⟩))<|sD 5 rfl (.pointer (some ⟨g,off+i*1,none⟩)) (Quiet.pure (exec_atA 256 _ _ _ g off _ i 1 .i64 rfl rfl rfl Tryz.underlying256 kF (by omega)))<|sD 6 rfl (.int .u8 ((dg t.kn i:Nat):Int)) (Quiet.thereOne g (off+i*1) 5 _ _ rfl kR hg _ (range_flat (range_left hr) (dgA_len t.kn) hi 0 _ rfl) Tryz.underlying5 rfl)<|sZ 7 rfl (.pointer (some ⟨g,off,none⟩)) ?_
 refine sZ 8 rfl (.pointer (some ⟨g,off+64,none⟩))<|sD 9 rfl (.pointer (some ⟨g,off+64+(dg t.kn i)*12,none⟩)) (Quiet.pure (exec_atA 271 _ _ _ g (off+64) _ (dg t.kn i) 12 .u8 rfl rfl rfl Tryz.underlying271 kF (by omega)))<|sD 10 rfl (tv ((fewL (threeJ t.pt) (dg t.kn i)).x.val) ((fewL (threeJ t.pt) (dg t.kn i)).y.val) ((fewL (threeJ t.pt) (dg t.kn i)).z.val)) (Quiet.there g (off+64+(dg t.kn i)*12) 12 223 (fewA (threeJ t.pt) (dg t.kn i)) _ _ rfl kR hg (range_flat (range_right hr (flat_len (dgA_len t.kn) 64)) (fewA_len _) hd) Tryz.underlying223 rfl kR rfl _ kR)<|sX 11 rfl 0 g0 223 (tcs 0 0 0) (tcs ((fewL (threeJ t.pt) (dg t.kn i)).x.val) ((fewL (threeJ t.pt) (dg t.kn i)).y.val) ((fewL (threeJ t.pt) (dg t.kn i)).z.val)) (wS 0 223 (tcs ((fewL (threeJ t.pt) (dg t.kn i)).x.val) ((fewL (threeJ t.pt) (dg t.kn i)).y.val) ((fewL (threeJ t.pt) (dg t.kn i)).z.val)) rfl) ?_
 refine sI ?_
 refine Sy.ret ?_
 exact rC (v:=tv ((fewL (threeJ t.pt) (dg t.kn i)).x.val) ((fewL (threeJ t.pt) (dg t.kn i)).y.val) ((fewL (threeJ t.pt) (dg t.kn i)).z.val)) 223 g0 0 (tcs ((fewL (threeJ t.pt) (dg t.kn i)).x.val) ((fewL (threeJ t.pt) (dg t.kn i)).y.val) ((fewL (threeJ t.pt) (dg t.kn i)).z.val)) rfl Tryz.underlying223
theorem multi_c (w:World) (b o n c:Nat) (T:Nat→Trm) (hb:b<w.heap.size) (hn:n≤32) (hok:∀ j,(T j).ok) (hT:∀ j,j<n→w.rangeAt b (o+j*13) (T j).cells):Calls Tryz.prog 191 #[.slice (some ⟨b,o,none⟩) n c] w (Gets w (tv (muJ T n 64).x.val (muJ T n 64).y.val (muJ T n 64).z.val)):=by
 refine Sy.enter (args:=[.slice (some ⟨b,o,none⟩) n c]) Tryz.func191 rfl kL ?_
 refine sC ?_
 refine sM 223 (tcs 0 0 0) (λg0=>?_)
 refine sA ?_
 refine sP (.slice (some ⟨b,o,none⟩) n c)<|sP (.int .i64 ((n:Nat):Int)) ?_
 refine Sy.make kR 274 (flat (λ_=>zt) n).toArray (λg=>.slice (some ⟨g,0,none⟩) n n) (Makes.slice 269 274 _ (.agg zt.toArray) 256 1600 _ _ .i64 .i64 n zt rfl rfl rfl Tryz.underlying269 info_tm kR kR (by decide) kR kR kR (by omega) (by omega)) (λg1=>?_)
 refine sP (.slice (some ⟨g1,0,none⟩) n n) ?_
 refine sG<|Sy.seq<|sC ?_
 refine sP (.slice (some ⟨b,o,none⟩) n c)<|sP (.int .i64 ((n:Nat):Int))<|sP (.int .i64 0) ?_
 refine sG<|Sy.block ?_
 refine Sy.loopK n (λk1=>[(2,.pointer (some ⟨g0,0,none⟩)),(3,.slice (some ⟨g1,0,none⟩) n n),(12,.slice (some ⟨b,o,none⟩) n c),(13,.int .i64 ((n:Nat):Int)),(14,.int .i64 ((k1:Nat):Int))]) (λk1=>[(g0,223,(tcs 0 0 0)),(g1,274,(flat (upto k1 (λj=>tmA (T j)) zt) n).toArray)]) [true,true] (M:=[(g0,223,(tcs 0 0 0)),(g1,274,(flat (λ_=>zt) n).toArray)]) (all_cons kR (all_cons kR (all_cons kR (all_cons kR (all_cons kR all_nil))))) kR (bcons rfl (bcons (beq (upto_zero)) rfl)) (λk1 hk1=>?_)
 refine sC ?_
 obtain ⟨b1,hb1⟩:∃ z:Bool,z=decide (k1<n):=⟨_,rfl⟩
 refine sS (.bool b1) (Quiet.pure (exec_int .lss _ _ _ .i64 _ _ _ rfl rfl rfl (int_lss _ _ _ _ _ (by rw [hb1]; exact decide_eq_decide.2 (by omega))))) ?_
 refine sG<|Sy.seq ?_
 cases b1
 ·have lb1:¬ (k1<n):=of_decide_eq_false hb1.symm
  refine sU<|Sy.exit<|Sy.then_exit<|Sy.then_exit ?_
  obtain rfl:n=k1:=by omega
  refine Sy.in_exit<|sB ?_
  refine sM 223 (tcs 0 0 0) (λg2=>?_)
  refine sG<|Sy.seq<|sC ?_
  refine sP (.int .i64 0) ?_
  refine sG<|Sy.block ?_
  refine Sy.loopK 64 (λk2=>[(2,.pointer (some ⟨g0,0,none⟩)),(3,.slice (some ⟨g1,0,none⟩) n n),(6,.pointer (some ⟨g2,0,none⟩)),(31,.int .i64 ((k2:Nat):Int))]) (λk2=>[(g0,223,(tcs 0 0 0)),(g1,274,(flat ((λj=>tmA (T j))) n).toArray),(g2,223,(tcs ((muJ T n k2).x.val) ((muJ T n k2).y.val) ((muJ T n k2).z.val)))]) [true,true,true] (M:=[(g0,223,(tcs 0 0 0)),(g1,274,(flat (upto n (λj=>tmA (T j)) zt) n).toArray),(g2,223,(tcs 0 0 0))]) (all_cons kR (all_cons kR (all_cons kR (all_cons kR all_nil)))) kR (bcons rfl (bcons (beq (upto_all)) (bcons rfl rfl))) (λk2 hk2=>?_)
  refine sC ?_
  obtain ⟨b2,hb2⟩:∃ z:Bool,z=decide (k2<64):=⟨_,rfl⟩
  refine sS (.bool b2) (Quiet.pure (exec_int .lss _ _ _ .i64 _ _ _ rfl rfl rfl (int_lss _ _ _ _ _ (by rw [hb2]; exact decide_eq_decide.2 (by omega))))) ?_
  refine sG<|Sy.seq ?_
  cases b2
  ·have lb2:¬ (k2<64):=of_decide_eq_false hb2.symm
   refine sU<|Sy.exit<|Sy.then_exit<|Sy.then_exit ?_
   obtain rfl:k2=64:=by omega
   refine Sy.in_exit<|sB ?_
   refine sS (tv ((muJ T n 64).x.val) ((muJ T n 64).y.val) ((muJ T n 64).z.val)) (qL 2 g2 0 12 223 223 (tcs ((muJ T n 64).x.val) ((muJ T n 64).y.val) ((muJ T n 64).z.val)) rfl Tryz.underlying223)<|sW 0 g0 223 (tcs 0 0 0) (tcs ((muJ T n 64).x.val) ((muJ T n 64).y.val) ((muJ T n 64).z.val)) (wS 0 223 (tcs ((muJ T n 64).x.val) ((muJ T n 64).y.val) ((muJ T n 64).z.val)) rfl) ?_
   refine sG<|Sy.ret ?_
   exact rC (v:=tv ((muJ T n 64).x.val) ((muJ T n 64).y.val) ((muJ T n 64).z.val)) 223 g0 0 (tcs ((muJ T n 64).x.val) ((muJ T n 64).y.val) ((muJ T n 64).z.val)) rfl Tryz.underlying223
  ·have lb2:k2<64:=of_decide_eq_true hb2.symm
   refine sT<|Sy.skip<|Sy.then_<|Sy.seq<|Sy.block<|sC ?_
   refine sP (.int .i64 ((k2:Nat):Int))<|sP (.int .i64 ((k2:Nat):Int)) ?_
   refine sG<|Sy.seq<|sC ?_
   refine sP (.int .i64 0) ?_
   refine sG<|Sy.block ?_
   refine Sy.loopK 4 (λk3=>[(2,.pointer (some ⟨g0,0,none⟩)),(3,.slice (some ⟨g1,0,none⟩) n n),(6,.pointer (some ⟨g2,0,none⟩)),(7,.int .i64 ((k2:Nat):Int)),(31,.int .i64 ((k2:Nat):Int)),(34,.int .i64 ((k3:Nat):Int))]) (λk3=>[(g0,223,(tcs 0 0 0)),(g1,274,(flat ((λj=>tmA (T j))) n).toArray),(g2,223,(tcs ((dbN (muJ T n k2) k3).x.val) ((dbN (muJ T n k2) k3).y.val) ((dbN (muJ T n k2) k3).z.val)))]) [true,true,true] (M:=[(g0,223,(tcs 0 0 0)),(g1,274,(flat ((λj=>tmA (T j))) n).toArray),(g2,223,(tcs ((muJ T n k2).x.val) ((muJ T n k2).y.val) ((muJ T n k2).z.val)))]) (all_cons kR (all_cons kR (all_cons kR (all_cons kR (all_cons kR (all_cons kR all_nil)))))) kR (bcons rfl (bcons rfl (bcons rfl rfl))) (λk3 hk3=>?_)
   refine sC ?_
   obtain ⟨b3,hb3⟩:∃ z:Bool,z=decide (k3<4):=⟨_,rfl⟩
   refine sS (.bool b3) (Quiet.pure (exec_int .lss _ _ _ .i64 _ _ _ rfl rfl rfl (int_lss _ _ _ _ _ (by rw [hb3]; exact decide_eq_decide.2 (by omega))))) ?_
   refine sG<|Sy.seq ?_
   cases b3
   ·have lb3:¬ (k3<4):=of_decide_eq_false hb3.symm
    refine sU<|Sy.exit<|Sy.then_exit<|Sy.then_exit ?_
    obtain rfl:k3=4:=by omega
    refine Sy.in_exit<|sB ?_
    refine sP (.slice (some ⟨g1,0,none⟩) n n)<|sP (.int .i64 ((n:Nat):Int))<|sP (.int .i64 0) ?_
    refine sG<|Sy.block ?_
    refine Sy.loopK n (λk4=>[(2,.pointer (some ⟨g0,0,none⟩)),(3,.slice (some ⟨g1,0,none⟩) n n),(6,.pointer (some ⟨g2,0,none⟩)),(7,.int .i64 ((k2:Nat):Int)),(31,.int .i64 ((k2:Nat):Int)),(40,.int .i64 ((n:Nat):Int)),(41,.int .i64 ((k4:Nat):Int))]) (λk4=>[(g0,223,(tcs 0 0 0)),(g1,274,(flat ((λj=>tmA (T j))) n).toArray),(g2,223,(tcs ((inJ T k2 (dbN (muJ T n k2) 4) k4).x.val) ((inJ T k2 (dbN (muJ T n k2) 4) k4).y.val) ((inJ T k2 (dbN (muJ T n k2) 4) k4).z.val)))]) [true,true,true] (M:=[(g0,223,(tcs 0 0 0)),(g1,274,(flat ((λj=>tmA (T j))) n).toArray),(g2,223,(tcs ((dbN (muJ T n k2) 4).x.val) ((dbN (muJ T n k2) 4).y.val) ((dbN (muJ T n k2) 4).z.val)))]) (all_cons kR (all_cons kR (all_cons kR (all_cons kR (all_cons kR (all_cons kR (all_cons kR all_nil))))))) kR (bcons rfl (bcons rfl (bcons rfl rfl))) (λk4 hk4=>?_)
    refine sC ?_
    obtain ⟨b4,hb4⟩:∃ z:Bool,z=decide (k4<n):=⟨_,rfl⟩
    refine sS (.bool b4) (Quiet.pure (exec_int .lss _ _ _ .i64 _ _ _ rfl rfl rfl (int_lss _ _ _ _ _ (by rw [hb4]; exact decide_eq_decide.2 (by omega))))) ?_
    refine sG<|Sy.seq ?_
    cases b4
    ·have lb4:¬ (k4<n):=of_decide_eq_false hb4.symm
     refine sU<|Sy.exit<|Sy.then_exit<|Sy.then_exit ?_
     obtain rfl:n=k4:=by omega
     refine Sy.in_exit<|Sy.in_<|Sy.then_<|Sy.region ?_
     refine sS (.int .i64 ((k2+1:Nat):Int)) (Quiet.pure (exec_int .add _ _ _ .i64 _ _ _ rfl rfl rfl (int_add _ _ _ _ _ ((wrap_i64 (by omega) (by omega)).trans (by omega)))))<|sP (.int .i64 ((k2+1:Nat):Int)) ?_
     refine Sy.nil ?_
     exact Sy.againK [true,true,true] (M:=[(g0,223,(tcs 0 0 0)),(g1,274,(flat ((λj=>tmA (T j))) n).toArray),(g2,223,(tcs ((inJ T k2 (dbN (muJ T n k2) 4) n).x.val) ((inJ T k2 (dbN (muJ T n k2) 4) n).y.val) ((inJ T k2 (dbN (muJ T n k2) 4) n).z.val)))]) (by omega) (all_cons kR (all_cons kR (all_cons kR (all_cons kR all_nil)))) kR (bcons rfl (bcons rfl (bcons rfl rfl)))
    ·have lb4:k4<n:=of_decide_eq_true hb4.symm
     refine sT<|Sy.skip<|Sy.then_<|Sy.seq<|Sy.block<|sC ?_
     refine sP (.int .i64 ((k4:Nat):Int))<|sP (.int .i64 ((k4:Nat):Int)) ?_
     refine sG ?_
     refine Sy.regionD (λj=>j == 7) kR ?_
     refine sD 0 rfl (tv ((inJ T k2 (dbN (muJ T n k2) 4) k4).x.val) ((inJ T k2 (dbN (muJ T n k2) 4) k4).y.val) ((inJ T k2 (dbN (muJ T n k2) 4) k4).z.val)) (qL 2 g2 0 12 223 223 (tcs ((inJ T k2 (dbN (muJ T n k2) 4) k4).x.val) ((inJ T k2 (dbN (muJ T n k2) 4) k4).y.val) ((inJ T k2 (dbN (muJ T n k2) 4) k4).z.val)) rfl Tryz.underlying223)<|sZ 1 rfl (.slice (some ⟨g1,0,none⟩) n n)<|sZ 2 rfl (.int .i64 ((k4:Nat):Int))<|sD 3 rfl (.pointer (some ⟨g1,0+k4*256,none⟩)) (Quiet.pure (exec_at 269 _ _ _ g1 0 n n k4 256 .i64 rfl rfl rfl Tryz.underlying269 kF (by omega)))<|sZ 4 rfl (.int .i64 ((k2:Nat):Int))<|sD 5 rfl (tv ((fewL (threeJ (T k4).pt) (dg (T k4).kn k2)).x.val) ((fewL (threeJ (T k4).pt) (dg (T k4).kn k2)).y.val) ((fewL (threeJ (T k4).pt) (dg (T k4).kn k2)).z.val)) (Quiet.callS 233 #[.pointer (some ⟨g1,0+k4*256,none⟩),.int .i64 ((k2:Nat):Int)] kF (λw hw=>at_c w g1 (0+k4*256) k2 (T k4) (hw.get (i:=1) rfl).lt (by omega) (blk_range (hw.get (i:=1) rfl) (flat_at (tmA_len T) (k:=k4) (by omega) (by omega))))) ?_
     obtain ⟨j1,hj1⟩:∃ z:J,z=addJ (inJ T k2 (dbN (muJ T n k2) 4) k4) (fewL (threeJ (T k4).pt) (dg (T k4).kn k2)):=⟨_,rfl⟩
     refine sD 6 rfl (tv j1.x.val j1.y.val j1.z.val) (qF 190 #[tv ((inJ T k2 (dbN (muJ T n k2) 4) k4).x.val) ((inJ T k2 (dbN (muJ T n k2) 4) k4).y.val) ((inJ T k2 (dbN (muJ T n k2) 4) k4).z.val),tv ((fewL (threeJ (T k4).pt) (dg (T k4).kn k2)).x.val) ((fewL (threeJ (T k4).pt) (dg (T k4).kn k2)).y.val) ((fewL (threeJ (T k4).pt) (dg (T k4).kn k2)).z.val)] (λw=>by rw [hj1]; exact addJ_c w (inJ T k2 (dbN (muJ T n k2) 4) k4) (fewL (threeJ (T k4).pt) (dg (T k4).kn k2))))<|sX 7 rfl 2 g2 223 (tcs ((inJ T k2 (dbN (muJ T n k2) 4) k4).x.val) ((inJ T k2 (dbN (muJ T n k2) 4) k4).y.val) ((inJ T k2 (dbN (muJ T n k2) 4) k4).z.val)) (tcs j1.x.val j1.y.val j1.z.val) (wS 0 223 (tcs j1.x.val j1.y.val j1.z.val) rfl) ?_
     refine sE ?_
     refine Sy.in_<|Sy.then_<|Sy.region ?_
     refine sS (.int .i64 ((k4+1:Nat):Int)) (Quiet.pure (exec_int .add _ _ _ .i64 _ _ _ rfl rfl rfl (int_add _ _ _ _ _ ((wrap_i64 (by omega) (by omega)).trans (by omega)))))<|sP (.int .i64 ((k4+1:Nat):Int)) ?_
     refine Sy.nil ?_
     exact Sy.againK [true,true,true] (M:=[(g0,223,(tcs 0 0 0)),(g1,274,(flat ((λj=>tmA (T j))) n).toArray),(g2,223,(tcs j1.x.val j1.y.val j1.z.val))]) (by omega) (all_cons kR (all_cons kR (all_cons kR (all_cons kR (all_cons kR (all_cons kR (all_cons kR all_nil))))))) kR (bcons rfl (bcons rfl (bcons (beq (by rw [hj1]; rfl)) rfl)))
   ·have lb3:k3<4:=of_decide_eq_true hb3.symm
    refine sT<|Sy.skip<|Sy.then_<|Sy.seq<|Sy.block<|Sy.region ?_
    refine sS (tv ((dbN (muJ T n k2) k3).x.val) ((dbN (muJ T n k2) k3).y.val) ((dbN (muJ T n k2) k3).z.val)) (qL 2 g2 0 12 223 223 (tcs ((dbN (muJ T n k2) k3).x.val) ((dbN (muJ T n k2) k3).y.val) ((dbN (muJ T n k2) k3).z.val)) rfl Tryz.underlying223) ?_
    obtain ⟨j2,hj2⟩:∃ z:J,z=dblJ (dbN (muJ T n k2) k3):=⟨_,rfl⟩
    refine sS (tv j2.x.val j2.y.val j2.z.val) (qF 229 #[tv ((dbN (muJ T n k2) k3).x.val) ((dbN (muJ T n k2) k3).y.val) ((dbN (muJ T n k2) k3).z.val)] (λw=>by rw [hj2]; exact double_c w (dbN (muJ T n k2) k3)))<|sW 2 g2 223 (tcs ((dbN (muJ T n k2) k3).x.val) ((dbN (muJ T n k2) k3).y.val) ((dbN (muJ T n k2) k3).z.val)) (tcs j2.x.val j2.y.val j2.z.val) (wS 0 223 (tcs j2.x.val j2.y.val j2.z.val) rfl) ?_
    refine Sy.nil<|Sy.in_<|Sy.then_<|Sy.region ?_
    refine sS (.int .i64 ((k3+1:Nat):Int)) (Quiet.pure (exec_int .add _ _ _ .i64 _ _ _ rfl rfl rfl (int_add _ _ _ _ _ ((wrap_i64 (by omega) (by omega)).trans (by omega)))))<|sP (.int .i64 ((k3+1:Nat):Int)) ?_
    refine Sy.nil ?_
    exact Sy.againK [true,true,true] (M:=[(g0,223,(tcs 0 0 0)),(g1,274,(flat ((λj=>tmA (T j))) n).toArray),(g2,223,(tcs j2.x.val j2.y.val j2.z.val))]) (by omega) (all_cons kR (all_cons kR (all_cons kR (all_cons kR (all_cons kR (all_cons kR all_nil)))))) kR (bcons rfl (bcons rfl (bcons (beq (by rw [hj2]; rfl)) rfl)))
 ·have lb1:k1<n:=of_decide_eq_true hb1.symm
  refine sT<|Sy.skip<|Sy.then_<|Sy.seq<|Sy.block<|sC ?_
  refine sP (.int .i64 ((k1:Nat):Int))<|sS (.pointer (some ⟨b,o+k1*13,none⟩)) (Quiet.pure (exec_at 174 _ _ _ b o n c k1 13 .i64 rfl rfl rfl Tryz.underlying174 kF (by omega)))<|sS (trv ((T k1).k) ((T k1).x) ((T k1).y) ((T k1).i)) (Quiet.there b (o+k1*13) 13 173 (T k1).cells _ _ rfl kR hb (hT k1 (by omega)) Tryz.underlying173 rfl kR rfl _ kR) ?_
  refine sM 173 (trcs 0 0 0 false) (λg3=>?_)
  refine sP (.int .i64 ((k1:Nat):Int))<|sW 2 g3 173 (trcs 0 0 0 false) (trcs ((T k1).k) ((T k1).x) ((T k1).y) ((T k1).i)) (wS 0 173 (trcs ((T k1).k) ((T k1).x) ((T k1).y) ((T k1).i)) rfl) ?_
  refine sG ?_
  refine Sy.regionD (λj=>j == 11) kR ?_
  refine sZ 0 rfl (.slice (some ⟨g1,0,none⟩) n n)<|sZ 1 rfl (.int .i64 ((k1:Nat):Int))<|sZ 2 rfl (.pointer (some ⟨g3,0,none⟩))<|sD 3 rfl (fv ((T k1).k)) (qL 2 g3 0 4 173 42 (trcs ((T k1).k) ((T k1).x) ((T k1).y) ((T k1).i)) rfl Tryz.underlying42)<|sD 4 rfl (.agg (flat ((dgA (T k1).kn)) 64).toArray) (qF 231 #[fv ((T k1).k)] (λw=>digits_c w (T k1).k (hok k1).1))<|sZ 5 rfl (.pointer (some ⟨g3,4,none⟩))<|sD 6 rfl (pv ((T k1).x) ((T k1).y) ((T k1).i)) (qL 2 g3 4 9 173 48 (trcs ((T k1).k) ((T k1).x) ((T k1).y) ((T k1).i)) rfl Tryz.underlying48)<|sD 7 rfl (ptv (T k1).pt) (qF 202 #[pv ((T k1).x) ((T k1).y) ((T k1).i)] (λw=>right_c w (T k1).x (T k1).y (T k1).i (hok k1).2.1 (hok k1).2.2)) ?_
  refine sD 8 rfl (.agg (flat ((fewA (threeJ (T k1).pt))) 16).toArray) (qF 232 #[ptv (T k1).pt] (λw=>few_p w (T k1).pt))<|sZ 9 rfl (.agg (tmcs (T k1)))<|sD 10 rfl (.pointer (some ⟨g1,0+k1*256,none⟩)) (Quiet.pure (exec_at 269 _ _ _ g1 0 n n k1 256 .i64 rfl rfl rfl Tryz.underlying269 kF (by omega)))<|sX 11 rfl 1 g1 274 (flat (upto k1 (λj=>tmA (T j)) zt) n).toArray (flat (upto (k1+1) (λj=>tmA (T j)) zt) n).toArray (Writes.store (0+k1*256) 274 (tmcs (T k1)) _ _ rfl kR kR kR (flat_fit (upto_len (tmA_len T) rfl _) (k:=k1) (by omega) (by omega)) kR (upto_set (v:=(tmcs (T k1)).toList) (tmA_len T) rfl (rfl) (by omega) (by omega))) ?_
  refine sE ?_
  refine Sy.in_<|Sy.then_<|Sy.region ?_
  refine sS (.int .i64 ((k1+1:Nat):Int)) (Quiet.pure (exec_int .add _ _ _ .i64 _ _ _ rfl rfl rfl (int_add _ _ _ _ _ ((wrap_i64 (by omega) (by omega)).trans (by omega)))))<|sP (.int .i64 ((k1+1:Nat):Int)) ?_
  refine Sy.nil ?_
  exact Sy.againK [true,true,false] (M:=[(g0,223,(tcs 0 0 0)),(g1,274,(flat (upto (k1+1) (λj=>tmA (T j)) zt) n).toArray)]) (by omega) (all_cons kR (all_cons kR (all_cons kR (all_cons kR (all_cons kR all_nil))))) kR (bcons rfl (bcons rfl rfl))
end Cu
end
section
namespace Ec
variable {n:Nat} [NeZero n] {inv:Fin n→Fin n} {α:Type}
def sumF (inv:Fin n→Fin n) (f:α→Pt n) (s:Pt n):List α→Pt n
 | []=>s
 | x::l=>sumF inv f (add inv s (f x)) l
def sumL (inv:Fin n→Fin n) (f:α→Pt n) (l:List α):Pt n:=sumF inv f none l
theorem On.sumF (H:Fld n inv) {f:α→Pt n}:∀ (l:List α) {s:Pt n},On s→(∀ x∈l,On (f x))→On (Ec.sumF inv f s l)
 | [],_,hs,_=>hs
 | x::l,_,hs,hf=>On.sumF H l (On.add H hs (hf x (List.mem_cons_self ..))) λy hy=>hf y (List.mem_cons_of_mem _ hy)
theorem sumF_start (H:Fld n inv) {f:α→Pt n}:∀ (l:List α) {s t:Pt n},On s→On t→(∀ x∈l,On (f x))→sumF inv f (add inv s t) l=add inv s (sumF inv f t l)
 | [],_,_,_,_,_=>rfl
 | x::l,s,t,hs,ht,hf=>by
  have hx:=hf x (List.mem_cons_self ..)
  show sumF inv f (add inv (add inv s t) (f x)) l=add inv s (sumF inv f (add inv t (f x)) l)
  rw [assoc H hs ht hx]
  exact sumF_start H l hs (On.add H ht hx) λy hy=>hf y (List.mem_cons_of_mem _ hy)
theorem sumF_is (H:Fld n inv) {f:α→Pt n} (l:List α) {s:Pt n} (hs:On s) (hf:∀ x∈l,On (f x)):sumF inv f s l=add inv s (sumL inv f l):=by
 have:=sumF_start H l hs (show On none from trivial) hf
 rwa [add_zero] at this
theorem On.sumL (H:Fld n inv) {f:α→Pt n} (l:List α) (hf:∀ x∈l,On (f x)):On (Ec.sumL inv f l):=On.sumF H l trivial hf
theorem sumL_cons (H:Fld n inv) {f:α→Pt n} (x:α) (l:List α) (hf:∀ y∈x::l,On (f y)):sumL inv f (x::l)=add inv (f x) (sumL inv f l):=by
 show sumF inv f (add inv none (f x)) l=_
 rw [zero_add]
 exact sumF_is H l (hf x (List.mem_cons_self ..)) λy hy=>hf y (List.mem_cons_of_mem _ hy)
theorem sumL_append (H:Fld n inv) {f:α→Pt n}:∀ (l m:List α),(∀ x∈l++m,On (f x))→sumL inv f (l++m)=add inv (sumL inv f l) (sumL inv f m)
 | [],m,_=>(zero_add _).symm
 | x::l,m,h=>by
  have h1:∀ y∈l++m,On (f y):=λy hy=>h y (List.mem_cons_of_mem _ hy)
  have h2:∀ y∈x::l,On (f y):=λy hy=>h y (by rcases List.mem_cons.1 hy with rfl | hy; exact List.mem_cons_self ..; exact List.mem_cons_of_mem _ (List.mem_append_left _ hy))
  rw [List.cons_append,sumL_cons H x (l++m) (λy hy=>h y (by rw [List.cons_append]; exact hy)),sumL_append H l m h1,sumL_cons H x l h2,
   assoc H (h x (List.mem_cons_self ..)) (On.sumL H l λy hy=>h1 y (List.mem_append_left _ hy)) (On.sumL H m λy hy=>h1 y (List.mem_append_right _ hy))]
theorem sumL_add (H:Fld n inv) {f g:α→Pt n}:∀ (l:List α),(∀ x∈l,On (f x))→(∀ x∈l,On (g x))→sumL inv (λx=>add inv (f x) (g x)) l=add inv (sumL inv f l) (sumL inv g l)
 | [],_,_=>rfl
 | x::l,hf,hg=>by
  have f1:=hf x (List.mem_cons_self ..)
  have g1:=hg x (List.mem_cons_self ..)
  have hf':∀ y∈l,On (f y):=λy hy=>hf y (List.mem_cons_of_mem _ hy)
  have hg':∀ y∈l,On (g y):=λy hy=>hg y (List.mem_cons_of_mem _ hy)
  rw [sumL_cons H x l (λy hy=>On.add H (hf y hy) (hg y hy)),sumL_cons H x l hf,sumL_cons H x l hg,sumL_add H l hf' hg']
  exact add4 H f1 g1 (On.sumL H l hf') (On.sumL H l hg')
theorem sumL_nm (H:Fld n inv) {f:α→Pt n} (k:Nat):∀ (l:List α),(∀ x∈l,On (f x))→sumL inv (λx=>nm inv k (f x)) l=nm inv k (sumL inv f l)
 | [],_=>(nm_none k).symm
 | x::l,hf=>by
  have f1:=hf x (List.mem_cons_self ..)
  have hf':∀ y∈l,On (f y):=λy hy=>hf y (List.mem_cons_of_mem _ hy)
  rw [sumL_cons H x l (λy hy=>On.nm H (hf y hy) k),sumL_cons H x l hf,sumL_nm H k l hf',nm_sum H f1 (On.sumL H l hf')]
theorem sumL_congr (H:Fld n inv) {f g:α→Pt n}:∀ (l:List α),(∀ x∈l,On (f x))→(∀ x∈l,f x=g x)→sumL inv f l=sumL inv g l
 | [],_,_=>rfl
 | x::l,hf,he=>by
  have hg:∀ y∈x::l,On (g y):=λy hy=>he y hy ▸ hf y hy
  rw [sumL_cons H x l hf,sumL_cons H x l hg,he x (List.mem_cons_self ..),sumL_congr H l (λy hy=>hf y (List.mem_cons_of_mem _ hy)) λy hy=>he y (List.mem_cons_of_mem _ hy)]
theorem horner (H:Fld n inv) {p:α→Pt n} (k:α→Nat) (q:Nat) (l:List α) (hp:∀ x∈l,On (p x)) :
  add inv (nm inv 16 (sumL inv (λx=>nm inv (k x / (16*q)) (p x)) l)) (sumL inv (λx=>nm inv (k x / q%16) (p x)) l)=sumL inv (λx=>nm inv (k x / q) (p x)) l:=by
 rw [← sumL_nm H 16 l λx hx=>On.nm H (hp x hx) _, ← sumL_add H l (λx hx=>On.nm H (On.nm H (hp x hx) _) _) λx hx=>On.nm H (hp x hx) _]
 refine sumL_congr H l (λx hx=>On.add H (On.nm H (On.nm H (hp x hx) _) _) (On.nm H (hp x hx) _)) λx hx=>?_
 rw [← nm_mul H (hp x hx), ← nm_add H (hp x hx)]
 congr 1
 rw [Nat.mul_comm 16 q, ← Nat.div_div_eq_div_mul]
 omega
end Ec
end
section
namespace Cu
open Go.RowKit Sy
theorem sumF_snoc {α:Type} (f:α→Pt):∀ (l:List α) (s:Pt) (x:α),Ec.sumF finv f s (l++[x])=Ec.add finv (Ec.sumF finv f s l) (f x)
 | [],_,_=>rfl
 | y::l,s,x=>sumF_snoc f l (Ec.add finv s (f y)) x
theorem sumL_none {α:Type} (f:α→Pt):∀ (l:List α),(∀ x∈l,f x=none)→Ec.sumL finv f l=none
 | [],_=>rfl
 | x::l,h=>by
  show Ec.sumF finv f (Ec.add finv none (f x)) l=none
  rw [h x (List.mem_cons_self ..),Ec.add_zero]
  exact sumL_none f l λy hy=>h y (List.mem_cons_of_mem _ hy)
theorem sumL_map {α β:Type} (f:β→Pt) (g:α→β) (l:List α):Ec.sumL finv f (l.map g)=Ec.sumL finv (λx=>f (g x)) l:=by
 have h:∀ (l:List α) (s:Pt),Ec.sumF finv f s (l.map g)=Ec.sumF finv (λx=>f (g x)) s l:=by
  intro l
  induction l with
  | nil=>intro _; rfl
  | cons x l ih=>intro s; exact ih _
 exact h l none
theorem dbN_rep {a:J} {P:Pt} (hP:Ec.On P) (h:Ec.Rep a P):∀ j,Ec.Rep (dbN a j) (Ec.nm finv (2 ^ j) P)
 | 0=>by rw [Nat.pow_zero,Ec.nm_one]; exact h
 | j+1=>by
  rw [show 2 ^ (j+1)=2 ^ j+2 ^ j by omega,Ec.nm_add fld hP]
  exact dblJ_rep (hP.nm fld _) (dbN_rep hP h j)
theorem Trm.on (t:Trm):Ec.On t.pt:=dec_on t.x t.y t.i
theorem inJ_rep (T:Nat→Trm) (i:Nat) {a:J} {s:Pt} (hs:Ec.On s) (h:Ec.Rep a s):∀ j,Ec.Rep (inJ T i a j) (Ec.sumF finv (λt=>Ec.nm finv (dg (T t).kn i) (T t).pt) s (List.range j))
 | 0=>h
 | j+1=>by
  rw [List.range_succ,sumF_snoc]
  exact addJ_rep (Ec.On.sumF fld _ hs λx _=>(T x).on.nm fld _) ((T j).on.nm fld _) (inJ_rep T i hs h j) (fewL_rep (T j).on (threeJ_rep _) _)
theorem kn_lt (t:Trm):t.kn<16 ^ 64:=Nat.lt_trans (Nat.mod_lt _ (by decide)) (by decide)
theorem muJ_rep (T:Nat→Trm) (n:Nat):∀ i,i≤64→Ec.Rep (muJ T n i) (Ec.sumL finv (λt=>Ec.nm finv ((T t).kn / 16 ^ (64 - i)) (T t).pt) (List.range n))
 | 0,_=>by
  rw [sumL_none _ _ λx _=>by rw [Nat.sub_zero,Nat.div_eq_of_lt (kn_lt (T x))]; rfl]
  rfl
 | i+1,hi=>by
  have hS:Ec.On (Ec.sumL finv (λt=>Ec.nm finv ((T t).kn / 16 ^ (64 - i)) (T t).pt) (List.range n)):=Ec.On.sumL fld _ λx _=>(T x).on.nm fld _
  have h1:=dbN_rep hS (muJ_rep T n i (by omega)) 4
  have h2:=inJ_rep T i (hS.nm fld _) h1 n
  rw [Ec.sumF_is fld _ (hS.nm fld _) λx _=>(T x).on.nm fld _] at h2
  have e1:16 ^ (64 - i)=16*16 ^ (63 - i):=by rw [show 64 - i=(63 - i)+1 by omega,Nat.pow_succ,Nat.mul_comm]
  have h3:=Ec.horner fld (p:=λt=>(T t).pt) (λt=>(T t).kn) (16 ^ (63 - i)) (List.range n) λx _=>(T x).on
  rw [show 64 - (i+1)=63 - i by omega, ← h3, ← e1]
  exact h2
theorem multi_rep (T:Nat→Trm) (n:Nat):Ec.Rep (muJ T n 64) (Ec.sumL finv (λt=>Ec.nm finv (T t).kn (T t).pt) (List.range n)):=by
 have h:=muJ_rep T n 64 (Nat.le_refl _)
 simpa using h
def szC (n c:Nat):Nat:=min 32 (n - c*32)
def chJ (T:Nat→Trm) (n:Nat) (s:J) (c:Nat):J:=addJ s (muJ (λj=>T (c*32+j)) (szC n c) 64)
def chL (T:Nat→Trm) (n:Nat) (l:List Nat):J:=l.foldl (chJ T n) ⟨0,0,0⟩
theorem chL_snoc (T:Nat→Trm) (n:Nat) (l:List Nat) (c:Nat):chL T n (l++[c])=chJ T n (chL T n l) c:=by simp [chL,List.foldl_append]
theorem chL_rep (T:Nat→Trm) (n:Nat):∀ c,Ec.Rep (chL T n (List.range c)) (Ec.sumL finv (λt=>Ec.nm finv (T t).kn (T t).pt) (List.range (min n (c*32))))
 | 0=>by rw [Nat.zero_mul,Nat.min_zero]; rfl
 | c+1=>by
  have hon:∀ l,Ec.On (Ec.sumL finv (λt=>Ec.nm finv (T t).kn (T t).pt) l):=λl=>Ec.On.sumL fld _ λx _=>(T x).on.nm fld _
  have h1:=chL_rep T n c
  have h2:=multi_rep (λj=>T (c*32+j)) (szC n c)
  have h3:=addJ_rep (hon _) (Ec.On.sumL fld _ λx _=>(T (c*32+x)).on.nm fld _) h1 h2
  rw [List.range_succ,chL_snoc]
  show Ec.Rep (addJ _ _) _
  have e:min n ((c+1)*32)=min n (c*32)+szC n c:=by unfold szC; omega
  rcases Nat.lt_or_ge (c*32) n with hlt | hge
  ·rw [e,List.range_add,Ec.sumL_append fld _ _ λx _=>(T x).on.nm fld _,sumL_map]
   rw [show min n (c*32)=c*32 by omega] at h3 ⊢
   exact h3
  ·have ez:szC n c=0:=by unfold szC; omega
   rw [e,ez,Nat.add_zero]
   rw [ez] at h3
   have e0:∀ f:Nat→Pt,Ec.sumL finv f (List.range 0)=none:=λ_=>rfl
   rw [e0,Ec.add_zero] at h3
   exact h3
theorem chL_all (T:Nat→Trm) (n:Nat):Ec.Rep (chL T n (List.range ((n+31) / 32))) (Ec.sumL finv (λt=>Ec.nm finv (T t).kn (T t).pt) (List.range n)):=by
 have h:=chL_rep T n ((n+31) / 32)
 rwa [show min n ((n+31) / 32*32)=n by omega] at h
end Cu
end
section
namespace Sy
open Go.RowKit
abbrev mark (D:Nat):Deferred:={ target:=.collected D,args:=#[] }
theorem St.refix {w0:Base} {w:World} {L:Blocks} (h:St w0 w L) (ds:List Deferred) (fe:Fence) (ro:Nat):St ⟨w0.world,w,ds,fe,ro⟩ w L:=⟨h.below,h.blk,h.apart,Nat.le_refl _,λ_ _ _ h _=>h⟩
theorem St.back {w0:Base} {W w:World} {L L':Blocks} (h0:St w0 W L) {ds:List Deferred} {fe:Fence} {ro:Nat} (h:St ⟨w0.world,W,ds,fe,ro⟩ w L') (ds':List Deferred) (fe':Fence) (ro':Nat):St ⟨w0.world,w0.fz,ds',fe',ro'⟩ w L' :=
 ⟨h.below,h.blk,h.apart,Nat.le_trans h0.size h.size,λk o hk ho hc=>h.non k o hk (h0.non k o hk ho hc) hc⟩
theorem St.keeps {w0:Base} {W w:World} {L L':Blocks} (h0:St w0 W L) {ds:List Deferred} {fe:Fence} {ro:Nat} (h:St ⟨w0.world,W,ds,fe,ro⟩ w L') {B:Nat} (hB:w0.world.heap.size≤B):KeepsFrom B W w:=⟨h.size,λk o hk ho hc=>h.non k o (Nat.le_trans hB hk) ho hc⟩
theorem St.between {w0:Base} {W w:World} {L L':Blocks} (h0:St w0 W L) {ds:List Deferred} {fe:Fence} {ro:Nat} (h:St ⟨w0.world,W,ds,fe,ro⟩ w L'):Below w0.world.heap.size W w :=
 ⟨h.below.os.trans h0.below.os.symm,h.below.tape.trans h0.below.tape.symm,h.below.output.trans h0.below.output.symm,h.size,λk hk=>(h.below.block k hk).trans (h0.below.block k hk).symm⟩
theorem St.own {w0:Base} {X Y:World} {L:Blocks} {B:Nat} {row:Option Nat} (h:St w0 X L) (hB:w0.fz.heap.size≤B) (hB2:w0.world.heap.size≤B) (hg:X.grownBy Y row) (hr:∀ r,row=some r→B≤r∧∃ o:Obj,X.heap[r]? = some o∧o.isCells=false):St w0 Y L:=by
 refine ⟨?_,λg t cs hm=>⟨(h.blk g t cs hm).1,(h.blk g t cs hm).2.grown hg (λe=>?_)⟩,h.apart,Nat.le_trans h.size hg.size,λk o hk ho hc=>?_⟩
 ·refine h.below.trans ⟨hg.os,hg.tape,hg.output,hg.size,λk hk=>hg.block k (Nat.lt_of_lt_of_le hk h.below.size) (λe=>?_)⟩
  have:=(hr k e.symm).1
  omega
 ·obtain ⟨o,ho,hc⟩:=(hr g e.symm).2
  have hb:=(h.blk g t cs hm).2
  unfold Blk at hb
  rw [hb] at ho
  cases ho
  cases hc
 ·have h1:=h.non k o hk ho hc
  have hlt:=(Array.getElem?_eq_some_iff.1 ho).1
  exact (hg.block k (Array.getElem?_eq_some_iff.1 h1).1 (λe=>by have:=(hr k e.symm).1; omega)).trans h1
def KpL (n₀:Nat) (l:Blocks) (W W':World):Prop:=Below n₀ W W'∧∀ p∈l,Blk W p.1 p.2.1 p.2.2→Blk W' p.1 p.2.1 p.2.2
theorem KpL.trans {n₀:Nat} {l:Blocks} {A B C:World} (h:KpL n₀ l A B) (k:KpL n₀ l B C):KpL n₀ l A C:=⟨h.1.trans k.1,λp hp hc=>k.2 p hp (h.2 p hp hc)⟩
theorem KpL.put {n₀:Nat} {l:Blocks} {W:World} {k:Nat} {o o':Obj} (hk:n₀≤k) (ho:W.heap[k]? = some o) (hc:o.isCells=false):KpL n₀ l W (W.putObj k o'):=by
 have hg:=grownBy_putObj' W k o'
 refine ⟨⟨hg.os,hg.tape,hg.output,hg.size,λj hj=>World.putObj_heap_other (by omega)⟩,λp _ hp=>?_⟩
 have hne:p.1≠k:=by
  rintro rfl
  unfold Blk at hp
  rw [hp] at ho
  cases ho
  cases hc
 exact (World.putObj_heap_other hne).trans hp
def roundF (F:Slots) (ps:Array Tmp) (vs:Array Value):Slots:=(ps.toList.zip vs.toList).foldl (λF x=>(x.1,x.2)::F) F
theorem Fr.round {ds:List Deferred} {n:Nat}:∀ (l:List (Tmp×Value)) {T:Array Value} {F:Slots},(∀ x∈l,x.1<n)→Fr ds { tmps:=T,defers:=ds } n F→Fr ds { tmps:=l.foldl (λt x=>t.setIfInBounds x.1 x.2) T,defers:=ds } n (l.foldl (λF x=>(x.1,x.2)::F) F)
 | [],_,_,_,h=>h
 | x::l,T,F,hl,h=>by
  have h2:=h.put (d:=some x.1) (decide_eq_true (hl x (List.mem_cons_self ..))) x.2
  exact Fr.round l (λy hy=>hl y (List.mem_cons_of_mem _ hy)) h2
section
variable {P:Program} {w0 fz0:World} {n:Nat} {Q:Exit→Act→World→Prop} {F:Slots} {L:Blocks}
abbrev rb (w0 fz:World) (l:Nat):Base:=⟨w0,fz,[],Fence.wide.inRound l,7⟩
abbrev ab (w0 fz:World) (D:Nat):Base:=⟨w0,fz,[mark D],Fence.wide,9⟩
def BP {α:Type} (w0 fz:World) (l:Nat) (HI:List α→Prop) (LL XR:List α→Blocks) (HX:List α→Prop) (pre:List α):Exit→Act→World→Prop
 | .normal,_,w=>HI pre∧St (rb w0 fz l) w (LL pre)
 | .ret,_,w=>HX pre∧St (rb w0 fz l) w (XR pre)
 | _,_,_=>False
def AP (w0 fz:World) (l n na:Nat) (FA:List Nat→Slots) (LP:Blocks) (LA:List Nat→Blocks):Exit→Act→World→Prop
 | .normal,a,w=>∃ gs,gs.length=na∧Fr [] a n (FA gs)∧St (rb w0 fz l) w (LP++LA gs)
 | _,_,_=>False
theorem rangeF {α:Type} {g:Operand} {ps:Array Tmp} {assign body:Code} (gf:Nat) (lb:Array Value) (hgi:inF F g=true) (hg:evF F g=.func (.func gf) #[] lb) (eg:∀ args w,(callFunc gf args).run P w=.ok (.enter gf args) w)
  (encs:α→Array Value) (kl:Blocks) (S Sp:List α→Prop) (N:Nat) (hps:∀ x,(encs x).size=ps.size) (hpn:∀ p∈ps.toList,p<n)
  (G:List Nat) (HI:List α→Prop) (hI0:HI []) (LL XR:List α→Blocks) (HX:List α→Prop) (m:List Bool) (h0:sel L m=LL []) (hG:∀ pre,(LL pre).map (·.1)=G)
  (hseq:∀ w,St ⟨w0,fz0,[],Fence.wide,9⟩ w L→∃ wk,Below wk.heap.size wk w∧SeqStopsK Fence.wide 8 P gf lb encs (KpL w0.heap.size kl) S Sp N wk)
  (hkl:∀ p∈kl, ∀ pre,p∈LL pre)
  (na:Nat) (FA:α→List Nat→Slots) (LA:α→List Nat→Blocks) (hLA:∀ x gs,gs.length=na→(LA x gs).map (·.1)=gs)
  (hassign:∀ l fz pre x,wpC P (rb w0 fz l) n (AP w0 fz l n na (FA x) (LL pre) (LA x)) (roundF F ps (encs x)) (LL pre) assign)
  (hbody:∀ l fz pre x gs,gs.length=na→pre.length<N→HI pre→wpC P (rb w0 fz l) n (BP w0 fz l HI LL XR HX (pre++[x])) (FA x gs) (LL pre++LA x gs) body)
  (hdone:∀ D fz xs,S xs→HI xs→w0.heap.size≤D→fz.heap[D]? = some (.deferred (some []))→X (ab w0 fz D) n Q F (LL xs) .normal)
  (hstop:∀ D fz pre,Sp pre→HX pre→w0.heap.size≤D→fz.heap[D]? = some (.deferred (some []))→X (ab w0 fz D) n Q F (XR pre) .ret) :
  wpC P ⟨w0,fz0,[],Fence.wide,9⟩ n Q F L (.rangeFunc g ps assign body):=by
 intro a w ha hw
 obtain ⟨wk,hbk,hsq⟩:=hseq w hw
 have hsz:fz0.heap.size≤w.heap.size:=hw.size
 have hsz0:w0.heap.size≤w.heap.size:=hw.below.size
 have hz:St ⟨w0,fz0,[],Fence.wide,9⟩ w (LL []):=h0 ▸ hw.less (sel_sub L m)
 have had:a.defers=[]:=ha.1
 -- what a round hands on pays the iterator
 have hK:∀ {W W':World} {L1:Blocks} {pre pre':List α} {l:Nat},St ⟨w0,fz0,[],Fence.wide,9⟩ W (LL pre)→St (rb w0 W l) W' L1→(LL pre').Sublist L1→KpL w0.heap.size kl W W':=λ{W W' L1 pre pre' l} h1 h2 hs =>
  ⟨h1.between h2,λp hp _=>by
   exact (h2.blk _ _ _ (hs.subset (hkl p hp pre'))).2⟩
 refine wpIn_rangeFunc_ownH (F:=Fence.wide) (n:=9) rfl (by omega) (gf:=gf) (lb:=lb) ((ha.eval hgi).trans hg) trivial eg (encs:=encs) (Kp:=KpL w0.heap.size kl) (S:=S) (Sp:=Sp) (N:=N) (w0:=wk) hsq KpL.trans
  (λW l o o' hl ho hc _=>KpL.put (by omega) ho hc) hbk hps
  (λpre W=>HI pre∧St ⟨w0,fz0,[],Fence.wide,9⟩ W (LL pre)) (λc pre W=>c=.ret∧HX pre∧St ⟨w0,fz0,[],Fence.wide,9⟩ W (XR pre))
  (λpre X Y row hs hg hr=>⟨hs.1,St.own hs.2 hsz hsz0 hg hr⟩) (λc pre X Y row hs hg hr=>⟨hs.1,hs.2.1,St.own hs.2.2 hsz hsz0 hg hr⟩) ⟨hI0,hz⟩
  (λx a' W=>∃ gs,gs.length=na∧Fr [] a' n (FA x gs)∧(∀ e∈LA x gs,w0.heap.size≤e.1∧Blk W e.1 e.2.1 e.2.2)∧(G++gs).Nodup)
  (λx a' _ X Y row hs hg hr=>?_) ?_ ?_ ?_ ?_
 ·obtain ⟨gs,hl0,h1,h2,h3⟩:=hs
  refine ⟨gs,hl0,h1,λe he=>⟨(h2 e he).1,(h2 e he).2.grown hg (λq=>?_)⟩,h3⟩
  obtain ⟨o,ho,hc⟩:=(hr e.1 q.symm).2
  have hb:=(h2 e he).2
  unfold Blk at hb
  rw [hb] at ho
  cases ho
  cases hc
 ·-- the loop variables
  intro l pre x W K hI0' hk
  obtain ⟨hH,hI⟩:=hI0'
  have hfr:Fr [] { tmps:=(ps.zip (encs x)).foldl (λt (p,v)=>t.setIfInBounds p v) a.tmps,defers:=[] } n (roundF F ps (encs x)):=by
   have h1:Fr [] { tmps:=a.tmps,defers:=[] } n F:=⟨rfl,ha.2.1,ha.2.2⟩
   have h2:=Fr.round (ps.toList.zip (encs x).toList) (λy hy=>hpn y.1 (List.of_mem_zip hy).1) h1
   have e:(ps.zip (encs x)).foldl (λt (p,v)=>t.setIfInBounds p v) a.tmps=(ps.toList.zip (encs x).toList).foldl (λt x=>t.setIfInBounds x.1 x.2) a.tmps:=by
    rw [← Array.foldl_toList,Array.toList_zip]
   rw [e]
   exact h2
  refine wpIn_mono (hassign l W pre x _ W hfr (hI.refix _ _ _)) λe a' W' hq=>?_
  cases e with
  | normal =>
   obtain ⟨gs,hl0,h1,h2⟩:=hq
   have hsub:(LL pre).Sublist (LL pre++LA x gs):=List.sublist_append_left _ _
   refine hk a' W' (hI.keeps h2 hsz0) (hK hI h2 hsub) ⟨hH,(hI.back h2 _ _ _).less hsub⟩ ⟨gs,hl0,h1,λe he=>h2.blk e.1 e.2.1 e.2.2 (List.mem_append_right _ he),?_⟩
   have:=h2.apart
   rwa [List.map_append,hG,hLA _ _ hl0] at this
  | _=>exact hq.elim
 ·-- the body
  intro l pre x a' W hl _ hI0' ⟨gs,hl0,h1,h2,h3⟩ hlen
  obtain ⟨hH,hI⟩:=hI0'
  have hst:St (rb w0 W l) W (LL pre++LA x gs):=by
   refine ⟨hI.below,λg t cs hm=>?_,?_,Nat.le_refl _,λ_ _ _ h _=>h⟩
   ·rcases List.mem_append.1 hm with hm | hm
    ·exact hI.blk g t cs hm
    ·exact h2 (g,t,cs) hm
   ·rw [List.map_append,hG,hLA _ _ hl0]
    exact h3
  refine wpIn_mono (hbody l W pre x gs hl0 hlen hH a' W h1 hst) λe a3 W3 hq=>?_
  cases e with
  | normal=>exact ⟨hI.keeps hq.2 hsz0,hK hI hq.2 (List.Sublist.refl _),hq.1,hI.back hq.2 _ _ _⟩
  | ret=>exact ⟨hI.keeps hq.2 hsz0,rfl,hq.1,hI.back hq.2 _ _ _⟩
  | _=>exact hq.elim
 ·intro D xs W hD hS hI hd
  exact hdone D W xs hS hI.1 (Nat.le_trans hsz0 hD) hd _ W ⟨by simp [had],ha.2.1,ha.2.2⟩ (hI.2.refix _ _ _)
 ·rintro D c pre W hD hS ⟨rfl,hx,hI⟩ hd
  exact wpIn_ret (hstop D W pre hS hx (Nat.le_trans hsz0 hD) hd _ W ⟨by simp [had],ha.2.1,ha.2.2⟩ (hI.refix _ _ _))
theorem bpN {α:Type} {l:Nat} {HI:List α→Prop} {LL XR:List α→Blocks} {HX:List α→Prop} {pre:List α} (m:List Bool) {M:Blocks} (hL:sel L m=M) (hM:M=LL pre) (hi:HI pre):X (rb w0 fz0 l) n (BP w0 fz0 l HI LL XR HX pre) F L .normal:=λ_ _ _ hw=>by
 subst hL
 refine ⟨hi,?_⟩
 rw [← hM]
 exact hw.less (sel_sub L m)
theorem apN {l na:Nat} {FA:List Nat→Slots} {LP:Blocks} {LA:List Nat→Blocks} (gs:List Nat) (hg:gs.length=na) (hF:∀ p∈FA gs,F.lookup p.1=some p.2) (m:List Bool) (hL:sel L m=LP++LA gs):X (rb w0 fz0 l) n (AP w0 fz0 l n na FA LP LA) F L .normal:=λ_ _ ha hw=>⟨gs,hg,ha.all hF,hL ▸ hw.less (sel_sub L m)⟩
def GetsN (w:World) (R:Value→Blocks→Prop) (e:Ending) (w':World):Prop:=∃ v M,e=.returned v∧R v M∧Below w.heap.size w w'∧(∀ g t cs,(g,t,cs)∈M→w.heap.size≤g∧Blk w' g t cs)∧(M.map (·.1)).Nodup
theorem St.addN {w0:Base} {w w':World} {L M:Blocks} (h:St w0 w L) (hg:Gr w w') (hM:∀ g t cs,(g,t,cs)∈M→w.heap.size≤g∧Blk w' g t cs) (hn:(M.map (·.1)).Nodup):St w0 w' (L++M):=by
 have h':=h.gr hg
 refine ⟨h'.below,λg t cs hm=>?_,?_,h'.size,h'.non⟩
 ·rcases List.mem_append.1 hm with hm | hm
  ·exact h'.blk g t cs hm
  ·exact ⟨Nat.le_trans h.below.size (hM g t cs hm).1,(hM g t cs hm).2⟩
 ·rw [List.map_append,List.nodup_append]
  refine ⟨h.apart,hn,λx hx y hy e=>?_⟩
  obtain ⟨⟨g,t,cs⟩,hm,rfl⟩:=List.mem_map.1 hx
  obtain ⟨⟨g',t',cs'⟩,hm',rfl⟩:=List.mem_map.1 hy
  have h1:=(h.blk g t cs hm).2.lt
  have h2:=(hM g' t' cs' hm').1
  have e':g=g':=e
  omega
theorem callN {w0:Base} {ops:Array Oper} {o:Oper} {l:List Oper} (hg:good ops n F o=true) (f:FuncId) (args:Array Value) (he:∀ w,(execOp (evF F) o).run P w=.ok (.enter f args) w) (R:Value→Blocks→Prop)
  (hc:∀ w,St w0 w L→Calls P f args w (GetsN w R)) (h:∀ v M,R v M→wpS P w0 n ops Q (putF F o.dst v) (L++M) l):wpS P w0 n ops Q F L (o::l):=λa w ha hw=>by
 obtain ⟨g1,_,g3,_⟩:=good_spec hg
 refine wpList_step λK hK=>?_
 rw [if_pos (ha.wanted g1)]
 unfold Oper.wp
 rw [good_exec hg ha,he w]
 refine Calls.mono (hc w hw) λe w' he'=>?_
 obtain ⟨v,M,rfl,hR,hb,hM,hn⟩:=he'
 exact hK _ _ (h v M hR _ _ (ha.put g3 v) (hw.addN hb hM hn))
theorem callND {w0:Base} {ops:Array Oper} {ex:Nat→Bool} {fuel:Nat} {listed:Array Bool} (k:Nat) {oi:Oper} (hi0:ops.toList[k]? = some oi) (hr:Region.ready .any ops listed=[k]) (hg:good ops n F oi=true) (f:FuncId) (args:Array Value)
  (he:∀ w,(execOp (evF F) oi).run P w=.ok (.enter f args) w) (R:Value→Blocks→Prop) (hc:∀ w,St w0 w L→Calls P f args w (GetsN w R)) (h:∀ v M,R v M→wpD P w0 n ops Q ex (putF F oi.dst v) (L++M) fuel (listed.setIfInBounds k true)):wpD P w0 n ops Q ex F L (fuel+1) listed:=λa w ha hw =>
 wpAnyG_sole k hi0 hr (ha.wanted (good_spec hg).1) λw1 h1 K hK=>by
  unfold Oper.wp
  rw [good_exec hg ha,he w1]
  refine Calls.mono (hc w1 (hw.gr h1)) λe w' he'=>?_
  obtain ⟨v,M,rfl,hR,hb,hM,hn⟩:=he'
  exact hK _ _ (λ_=>hb) (h v M hR _ _ (ha.put (good_spec hg).2.2.1 v) ((hw.gr h1).addN hb hM hn))
theorem St.unmark {w0 fz:World} {D:Nat} {w:World} (h:St (ab w0 fz D) w L) (hD:w0.heap.size≤D) (hm:fz.heap[D]? = some (.deferred (some []))) :
  (Instr.takeDeferred D).run P w=.ok [] (w.putObj D (.deferred none))∧St (Base.of w0) (w.putObj D (.deferred none)) L:=by
 have ho:=h.non D _ hD hm rfl
 have hg:=grownBy_putObj' w D (.deferred none)
 refine ⟨run_takeDeferred ho,?_⟩
 have h1:St ⟨w0,w0,[],Fence.wide,9⟩ w L:=⟨h.below,h.blk,h.apart,h.below.size,λk o hk hq _=>by have:=(Array.getElem?_eq_some_iff.1 hq).1; exact absurd this (by show ¬ k<w0.heap.size; have:w0.heap.size≤k:=hk; omega)⟩
 exact h1.own (B:=w0.heap.size) (Nat.le_refl _) (Nat.le_refl _) hg (λr e=>by cases e; exact ⟨hD,_,ho,rfl⟩)
theorem retM1 {w1 fz:World} {D:Nat} {fn:Func} {r:ResultVar} {v:Value} (hr:fn.results=#[r]) (h:Has P F L r v) (hD:w1.heap.size≤D) (hm:fz.heap[D]? = some (.deferred (some []))):X (ab w1 fz D) n (bodyPostM Fence.wide 9 P fn (Gets w1 v)) F L .ret:=λa w ha hw=>by
 obtain ⟨e1,e2⟩:=St.unmark (P:=P) hw hD hm
 have hd:a.defers=[mark D]:=ha.1
 show LeavesInM Fence.wide 9 P fn a.tmps (Gets w1 v) a.defers .returning w
 rw [hd]
 refine ⟨by simp,.inl ⟨D,_,rfl,e1,?_⟩⟩
 refine ⟨v,?_,rfl,e2.below⟩
 rcases Res.run h ha e2 with ⟨t,rfl,f1⟩ | ⟨t,ty,ad,rfl,f1,f2⟩ <;> simp [results,Result.andThen, *]
end
end Sy
end
section
namespace Sy
open Go.RowKit
abbrev pb (W:World) (m:Nat):Base:=⟨W,W,[],Fence.wide,m⟩
theorem St.here (W:World) (m:Nat):St (pb W m) W []:=⟨Below.refl _ _,(λ_ _ _ h=>by cases h),List.Pairwise.nil,Nat.le_refl _,λ_ _ _ h _=>h⟩
theorem St.grown {W w:World} {m:Nat} {L:Blocks} (h:St (pb W m) w L):Gr W w:=h.below
section
variable {P:Program} {W:World} {m n:Nat} {Q:Exit→Act→World→Prop} {F:Slots} {L:Blocks} {ops:Array Oper} {o:Oper} {rest:List Oper}
theorem operIn_wide {o:Oper} {a:Act} {w:World} {K:Act→World→Prop} (hd:∀ c,o.op≠.defer c) (h:o.wp P a w K Q):o.wpIn Fence.wide m P a w K Q:=by
 unfold Oper.wpIn
 refine ⟨λ_ _=>trivial,?_⟩
 rw [Oper.semAt_plain _ _ _ hd]
 unfold Oper.wp at h
 generalize (execOp a.eval o).run P w=r at *
 cases r with
 | ok x w' =>
  cases x <;> simp only [Oper.upon,Oper.uponIn] at h ⊢ <;> first
   | exact h
   | exact ⟨λe=>by simp [Fence.wide] at e,callsIn_wide.2 h⟩
   | exact ⟨λe=>by simp [Fence.wide] at e,λc cs _=>let ⟨v,w',r,s⟩:=h c cs; ⟨v,w',r,stepsIn_wide.2 s⟩⟩
   | exact h.elim
 | halt x w'=>cases x <;> simp only [Oper.upon,Oper.uponIn] at h ⊢ <;> exact h
def thenI (P:Program) (ops:Array Oper) (m:Nat) (rest:List Oper) (Q:Exit→Act→World→Prop):Exit→Act→World→Prop
 | .normal,a,w=>wpListIn Fence.wide m P ops Q rest a w
 | e,a,w=>Q e a w
theorem listIn_app (hq:¬ LetsOut Q):∀ (l:List Oper),(∀ o∈l, ∀ c,o.op≠.defer c)→∀ (a:Act) (w:World),wpList P ops (thenI P ops m rest Q) l a w→wpListIn Fence.wide m P ops Q (l++rest) a w
 | [],_,_,_,h=>h
 | o::l,hd,a,w,h=>by
  have hq':¬ LetsOut (thenI P ops m rest Q):=λ⟨a,w,q⟩=>hq ⟨a,w,q⟩
  unfold wpList at h
  show wpListIn Fence.wide m P ops Q (o::(l++rest)) a w
  unfold wpListIn
  split
  ·rename_i hw
   simp only [hw,if_true] at h
   rcases h with h | h
   ·have h1:=operIn_wide (m:=m) (hd o (by simp)) h
    have h2:o.wpIn Fence.wide m P a w _ Q:=h1
    exact Oper.wpIn_mono (λa w h'=>listIn_app hq l (λo ho=>hd o (by simp [ho])) a w h') h2
   ·exact absurd h.2 hq'
  ·rename_i hw
   simp only [hw] at h
   exact ⟨λ_ _=>trivial,listIn_app hq l (λo ho=>hd o (by simp [ho])) _ _ h⟩
theorem listIn_wide (hq:¬ LetsOut Q):∀ (l:List Oper),(∀ o∈l, ∀ c,o.op≠.defer c)→∀ (a:Act) (w:World),wpList P ops Q l a w→wpListIn Fence.wide m P ops Q l a w
 | [],_,_,_,h=>h
 | o::l,hd,a,w,h=>by
  unfold wpList at h
  unfold wpListIn
  split
  ·rename_i hw
   simp only [hw,if_true] at h
   rcases h with h | h
   ·exact Oper.wpIn_mono (λa w h'=>listIn_wide hq l (λo ho=>hd o (by simp [ho])) a w h') (operIn_wide (hd o (by simp)) h)
   ·exact absurd h.2 hq
  ·rename_i hw
   simp only [hw] at h
   exact ⟨λ_ _=>trivial,listIn_wide hq l (λo ho=>hd o (by simp [ho])) _ _ h⟩
theorem noDefer_mem (h:noDefer ops=true) {o:Oper} (ho:o∈ops.toList):∀ c,o.op≠.defer c:=by
 obtain ⟨i,hi⟩:=List.mem_iff_getElem?.1 ho
 exact noDefer_spec h (by simpa using hi)
theorem regionY {i:Nat} (k:Nat) (hq:¬ LetsOut Q) (hd:noDefer ops=true) (h:wpS P (pb W m) n ops (thenI P ops m (ops.toList.drop k) Q) F L (ops.toList.take k)):wpC P (pb W m) n Q F L (.region i ops false):=λa w ha hw=>by
 refine wpIn_region_list ?_
 have h1:=listIn_app hq (ops.toList.take k) (λo ho=>noDefer_mem hd (List.mem_of_mem_take ho)) a w (h a w ha hw)
 rwa [List.take_append_drop] at h1
theorem yieldX {ro:Option Nat} {k:Nat} (hl:ops.toList.drop k=o::rest) (hq:¬ LetsOut Q) (hd:noDefer ops=true) (hg:good ops n F o=true) (l:Nat) (args:Array Value) (he:∀ w,(execOp (evF F) o).run P w=(Instr.yield l args).run P w)
  (R:Ending→World→Prop) (hY:∀ w,Gr W w→YieldAt Fence.wide (m - 1) P l args w R) (hR:∀ e w',R e w'→∃ b,e=.returned (.bool b)) (_:ro=none)
  (h:∀ w' b,R (.returned (.bool b)) w'→wpS P (pb w' m) n ops Q (putF F o.dst (.bool b)) [] rest):X (pb W m) n (thenI P ops m (ops.toList.drop k) Q) F L .normal:=λa w ha hw=>by
 show wpListIn Fence.wide m P ops Q (ops.toList.drop k) a w
 have hdr:∀ o∈ops.toList.drop k, ∀ c,o.op≠.defer c:=λo ho=>noDefer_mem hd (List.mem_of_mem_drop ho)
 rw [hl] at hdr ⊢
 obtain ⟨g1,_,g3,_⟩:=good_spec hg
 unfold wpListIn
 rw [if_pos (ha.wanted g1)]
 unfold Oper.wpIn
 refine ⟨λ_ _=>trivial,?_⟩
 rw [Oper.semAt_plain _ _ _ (hdr o (by simp)),good_exec hg ha,he w]
 obtain ⟨fn,tmps,assign,body,e1,e2⟩:=hY w hw.grown
 rw [e1]
 refine ⟨λe=>by simp [Fence.wide] at e,e2.mono λe w' hr=>?_⟩
 obtain ⟨b,rfl⟩:=hR e w' hr
 exact listIn_wide hq rest (λo ho=>hdr o (by simp [ho])) _ _ (h w' b hr _ _ (ha.put g3 _) (St.here w' m))
theorem abides_gr {β:Type} {B:Nat} {J:β→World→Prop} (h:AbidesFrom B J) {s:β} {X Y:World} (hj:J s X) (hg:Gr X Y):J s Y:=h s X Y none hj (only_of_below hg none) (λr e=>by cases e)
theorem yield_mono {l:Nat} {args:Array Value} {R R':Ending→World→Prop} (h:YieldAt Fence.wide m P l args W R) (hr:∀ e w,R e w→R' e w):YieldAt Fence.wide m P l args W R':=by
 obtain ⟨fn,tmps,assign,body,e1,e2⟩:=h
 exact ⟨fn,tmps,assign,body,e1,e2.mono hr⟩
def NextP (n N:Nat) (FF:Nat→Slots) (Z:Nat→World→Prop) (k:Nat):Act→World→Prop:=λa w=>k<N∧Fr [] a n (FF (k+1))∧Z (k+1) w
theorem loopP {c:Code} (N:Nat) (FF:Nat→Slots) (Z:Nat→World→Prop) (hF:∀ p∈FF 0,F.lookup p.1=some p.2) (h0:∀ w,Gr W w→Z 0 w)
  (hr:∀ k w,k≤N→Z k w→wpC P (pb w m) n (Exit.then (NextP n N FF Z k) Q) (FF k) [] c):wpC P (pb W m) n Q F L (.loop c) :=
 loopI N (λk a w=>Fr [] a n (FF k)∧Z k w) (λa w ha hw=>⟨ha.all hF,h0 w hw.grown⟩)
  λk hk a w ⟨ha,hz⟩=>hr k w hk hz a w ha (St.here w m)
theorem againP {N:Nat} {FF:Nat→Slots} {Z:Nat→World→Prop} {k:Nat} {R:Exit→Act→World→Prop} (hk:k<N) (hF:∀ p∈FF (k+1),F.lookup p.1=some p.2) (hz:∀ w,Gr W w→Z (k+1) w) :
  X (pb W m) n (Exit.then (NextP n N FF Z k) R) F L .normal:=λ_ w ha hw=>⟨hk,ha.all hF,hz w hw.grown⟩
theorem enterP {f:FuncId} {fn:Func} {c:Code} {args:List Value} {R:Ending→World→Prop} (hf:P.funcs[f]? = some fn) (hb:fn.body=some c) (hn:args.length≤fn.ntmps)
  (h:wpC P (pb W m) fn.ntmps (bodyPost P fn R) (slotsOf 0 args) [] c):CallsIn Fence.wide m P f args.toArray W R :=
 callsIn_of_wp hf hb trivial (h _ _ ⟨rfl,by simp; omega,λi v hi=>by
  have:=(lookup_slotsOf args 0 i v hi).2
  rw [Nat.sub_zero] at this
  have hl:=(List.getElem?_eq_some_iff.1 this).1
  rw [Array.getElem?_append_left (by simpa using hl)]
  simpa using this⟩ (St.here W m)) rfl
theorem retP {fn:Func} {R:Ending→World→Prop} (hr:fn.results=#[]) (h:∀ v w,Gr W w→R (.returned v) w) {e:Exit} (he:e=.ret∨e=.normal):X (pb W m) n (bodyPost P fn R) F L e:=λa w ha hw=>by
 have hx:a.defers=[]∧∃ v,(results fn a.tmps).run P w=.ok v w∧R (.returned v) w:=⟨ha.1,_,results_none hr _ _ _,h _ w hw.grown⟩
 rcases he with rfl | rfl <;> exact hx
end
end Sy
end
section
namespace Cu
open Go.RowKit Sy
set_option maxRecDepth 100000
set_option maxHeartbeats 4000000
def chV (b off m c:Nat):Value:=.slice (some ⟨b,off+32*c*13,none⟩) (szC m c) (szC m c)
def chE (b off m:Nat) {N:Nat} (x:Fin N):Array Value:=#[chV b off m x.val]
set_option maxHeartbeats 1000000 in
theorem chunk_any (w : World) (A : Option Addr) (m cap : Nat) :
    Calls Tryz.prog 189 #[.slice A m cap,.int .i64 32] w (GetsN w λv M=>∃ g1 g2,v=.func (.func 226) #[] #[.pointer (some ⟨g1,0,none⟩),.pointer (some ⟨g2,0,none⟩)]∧M=[(g1,174,#[.slice A m cap]),(g2,3,#[.int .i64 32])]):=by
  go_enter Tryz.func189,Tryz.ntmps189
  go_wp2
  go_ret
  refine ⟨_,_,rfl,⟨_,_,rfl,rfl⟩,below_alloc2 w _ _,λg t cs hm=>?_,?_⟩
  · simp only [List.mem_cons,List.not_mem_nil,or_false,Prod.mk.injEq] at hm
    rcases hm with ⟨rfl,rfl,rfl⟩ | ⟨rfl,rfl,rfl⟩
    · exact ⟨Nat.le_refl _,(Blk.new w _ _).alloc _⟩
    · exact ⟨by omega,blk_new2 w _ _ _⟩
  · simp
theorem chunk1_in (n l Bs Bn n₀ b off m cap N : Nat) (hN0 : N = (m + 31) / 32) (hm : m ≤ cap) (hm2 : m ≤ 4611686018427387904) (J Jx : List (Fin N) → World → Prop) (W : World) (hJ : AbidesFrom W.heap.size J) (hJx : AbidesFrom W.heap.size Jx)
    (hY:∀ pre x W1,J pre W1→pre.length<N→YieldAt Fence.wide (n - 1) Tryz.prog l (chE b off m x) W1 λe W'=>(e=.returned (.bool true)∧J (pre++[x]) W'∧KpL n₀ [(Bs,174,#[.slice (some ⟨b,off,none⟩) m cap]),(Bn,3,#[.int .i64 32])] W1 W')∨(e=.returned (.bool false)∧Jx (pre++[x]) W'))
    (hS:Blk W Bs 174 #[.slice (some ⟨b,off,none⟩) m cap]) (hN:Blk W Bn 3 #[.int .i64 32]) (h0:J [] W) :
    CallsIn Fence.wide n Tryz.prog 226 #[.func (.yield l) #[] #[],.pointer (some ⟨Bs,0,none⟩),.pointer (some ⟨Bn,0,none⟩)] W λe W'=>(∃ v,e=.returned v)∧((∃ ys:List (Fin N),ys.map (·.1)=List.range N∧J ys W')∨(∃ pre:List (Fin N),(∃ k,k≤N∧pre.map (·.1)=List.range k)∧Jx pre W')):=by
  refine Sy.enterP (args:=[.func (.yield l) #[] #[],.pointer (some ⟨Bs,0,none⟩),.pointer (some ⟨Bn,0,none⟩)]) Tryz.func226 rfl kL ?_
  refine sC ?_
  refine sP (.int .i64 0) ?_
  refine sG<|Sy.block ?_
  refine Sy.loopP N (λk1=>[(0,.func (.yield l) #[] #[]),(1,.pointer (some ⟨Bs,0,none⟩)),(2,.pointer (some ⟨Bn,0,none⟩)),(4,.int .i64 ((32*k1:Nat):Int))]) (λk1 w=>∃ pre:List (Fin N),pre.map (·.1)=List.range k1∧J pre w∧Blk w Bs 174 #[.slice (some ⟨b,off,none⟩) m cap]∧Blk w Bn 3 #[.int .i64 32]) (all_cons kR (all_cons kR (all_cons kR (all_cons kR all_nil)))) (λw hg=>⟨[],rfl,abides_gr hJ h0 hg,hg.blk hS,hg.blk hN⟩) (λk1 wr hk1 hz=>?_)
  clear hS hN
  obtain ⟨pre,hpre,hj,hS,hN⟩:=hz
  have hlen:pre.length=k1:=by have:=congrArg List.length hpre; rwa [List.length_map,List.length_range] at this
  refine Sy.seq<|sC ?_
  refine sP (.int .i64 ((32*k1:Nat):Int))<|sS (.slice (some ⟨b,off,none⟩) m cap) (Quiet.thereOne Bs 0 174 _ _ rfl kR hS.lt _ (hS.cell 0) Tryz.underlying174 rfl)<|sP (.int .i64 ((m:Nat):Int)) ?_
  obtain ⟨b1,hb1⟩:∃ z:Bool,z=decide (32*k1<m):=⟨_,rfl⟩
  refine sS (.bool b1) (Quiet.pure (exec_int .lss _ _ _ .i64 _ _ _ rfl rfl rfl (int_lss _ _ _ _ _ (by rw [hb1]; exact decide_eq_decide.2 (by omega))))) ?_
  refine sG ?_
  cases b1
  · have lb1:¬ (32*k1<m):=of_decide_eq_false hb1.symm
    refine sU<|Sy.exit<|Sy.then_exit<|Sy.then_exit ?_
    obtain rfl:N=k1:=by omega
    refine Sy.in_exit ?_
    exact Sy.retP rfl (λv w3 hg=>⟨⟨_,rfl⟩,.inl ⟨pre,hpre,abides_gr hJ hj hg⟩⟩) (.inr rfl)
  · have lb1 : 32 * k1 < m := of_decide_eq_true hb1.symm
    refine sT<|Sy.skip<|Sy.then_<|Sy.seq<|Sy.block<|Sy.seq ?_
    refine Sy.regionD (λj=>false) kR ?_
    refine sD 0 rfl (.int .i64 ((32:Nat):Int)) (Quiet.thereOne Bn 0 3 _ _ rfl kR hN.lt _ (hN.cell 0) Tryz.underlying3 rfl)<|sD 1 rfl (.slice (some ⟨b,off,none⟩) m cap) (Quiet.thereOne Bs 0 174 _ _ rfl kR hS.lt _ (hS.cell 0) Tryz.underlying174 rfl)<|sZ 2 rfl (.int .i64 ((32*k1:Nat):Int))<|sD 3 rfl (.slice (some ⟨b,off+(32*k1)*13,none⟩) (m - (32*k1)) (cap - (32*k1))) (Quiet.pure (exec_sl1 _ _ _ b off m cap (32*k1) 13 .i64 rfl rfl rfl kR kF (by omega) (by omega)))<|sZ 4 rfl (.int .i64 (((m - (32*k1)):Nat):Int)) ?_
    obtain ⟨sz,hsz⟩:∃ z,z=szC m k1:=⟨_,rfl⟩
    have hs:0<sz∧32*k1+sz≤m:=by rw [hsz]; unfold szC; omega
    refine sD 5 rfl (.int .i64 ((sz:Nat):Int)) (Quiet.pure (exec_min _ _ .i64 32 (m - (32*k1)) sz rfl rfl rfl (by rw [hsz]; unfold szC; omega)))<|sZ 6 rfl (.int .i64 ((sz:Nat):Int)) ?_
    refine sI ?_
    refine Sy.seq ?_
    have hx:k1<N:=by omega
    refine Sy.regionY 10 (by rintro ⟨_,_,⟨_,hv⟩,_⟩; cases hv) kR ?_
    refine sP (.func (.yield l) #[] #[])<|sS (.slice (some ⟨b,off,none⟩) m cap) (Quiet.thereOne Bs 0 174 _ _ rfl kR hS.lt _ (hS.cell 0) Tryz.underlying174 rfl)<|sP (.int .i64 ((32*k1:Nat):Int))<|sP (.int .i64 ((32*k1:Nat):Int))<|sP (.int .i64 ((sz:Nat):Int))<|sS (.int .i64 (((32*k1)+sz:Nat):Int)) (Quiet.pure (exec_int .add _ _ _ .i64 _ _ _ rfl rfl rfl (int_add _ _ _ _ _ ((wrap_i64 (by omega) (by omega)).trans (by omega)))))<|sP (.int .i64 ((32*k1:Nat):Int))<|sP (.int .i64 ((sz:Nat):Int)) ?_
    refine sS (.int .i64 (((32*k1)+sz:Nat):Int)) (Quiet.pure (exec_int .add _ _ _ .i64 _ _ _ rfl rfl rfl (int_add _ _ _ _ _ ((wrap_i64 (by omega) (by omega)).trans (by omega)))))<|sS (.slice (some ⟨b,off+(32*k1)*13,none⟩) (((32*k1)+sz) - (32*k1)) (((32*k1)+sz) - (32*k1))) (Quiet.pure (exec_sl3 _ _ _ _ _ b off m cap (32*k1) ((32*k1)+sz) ((32*k1)+sz) 13 .i64 .i64 .i64 rfl rfl rfl rfl rfl kR kF (by have:=hs; omega) (by have:=hs; omega) (by have:=hs; omega) (by have:=hs; omega))) ?_
    refine Sy.nil ?_
    refine Sy.yieldX (ro := none) rfl (by rintro ⟨_, _, ⟨_, hv⟩, _⟩; cases hv) kR kR l #[.slice (some ⟨b, off + (32 * k1) * 13, none⟩) (((32 * k1) + sz) - (32 * k1)) (((32 * k1) + sz) - (32 * k1))] kF (fun e W' => (e = .returned (.bool true) ∧ J (pre ++ [⟨k1, hx⟩]) W' ∧ Blk W' Bs 174 #[.slice (some ⟨b, off, none⟩) m cap] ∧ Blk W' Bn 3 #[.int .i64 32]) ∨ (e = .returned (.bool false) ∧ Jx (pre ++ [⟨k1, hx⟩]) W')) (fun w hg => by
            have e:chE b off m ⟨k1,hx⟩=#[.slice (some ⟨b,off+32*k1*13,none⟩) (32*k1+sz - 32*k1) (32*k1+sz - 32*k1)]:=by unfold chE chV; rw [← hsz,Nat.add_sub_cancel_left]
            have y:=hY pre ⟨k1,hx⟩ w (abides_gr hJ hj hg) (by omega)
            rw [e] at y
            exact yield_mono y (λe w' q=>q.imp (λq=>⟨q.1,q.2.1,q.2.2.2 (Bs,174,_) (by simp) (hg.blk hS),q.2.2.2 (Bn,3,_) (by simp) (hg.blk hN)⟩) id)) (λe w' q=>q.elim (λq=>⟨_,q.1⟩) (λq=>⟨_,q.1⟩)) rfl (λw2 b hr=>?_)
    cases b
    · have hx2:=hr.elim (λq=>by cases q.1) (λq=>q.2)
      refine sP (.bool true) ?_
      refine sG<|sT<|Sy.ret<|Sy.in_ret<|Sy.then_ret<|Sy.then_ret<|Sy.in_ret ?_
      exact Sy.retP rfl (λv w3 hg=>⟨⟨_,rfl⟩,.inr ⟨pre++[⟨k1,hx⟩],⟨k1+1,by omega,by rw [List.map_append,hpre,List.range_succ]; rfl⟩,abides_gr hJx hx2 hg⟩⟩) (.inl rfl)
    · clear hS hN hj
      obtain ⟨hj,hS,hN⟩:=hr.elim (λq=>q.2) (λq=>by cases q.1)
      refine sP (.bool false) ?_
      refine sG<|sU<|Sy.skip<|Sy.in_<|Sy.then_<|Sy.region ?_
      refine sP (.int .i64 ((32*k1:Nat):Int))<|sS (.int .i64 ((32:Nat):Int)) (Quiet.thereOne Bn 0 3 _ _ rfl kR hN.lt _ (hN.cell 0) Tryz.underlying3 rfl)<|sS (.int .i64 (((32*k1)+32:Nat):Int)) (Quiet.pure (exec_int .add _ _ _ .i64 _ _ _ rfl rfl rfl (int_add _ _ _ _ _ ((wrap_i64 (by omega) (by omega)).trans (by omega)))))<|sP (.int .i64 (((32*k1)+32:Nat):Int)) ?_
      refine Sy.nil ?_
      exact Sy.againP (by omega) (all_cons kR (all_cons kR (all_cons kR (all_cons kR all_nil)))) (λw3 hg=>⟨pre++[⟨k1,hx⟩],by rw [List.map_append,hpre,List.range_succ]; rfl,abides_gr hJ hj hg,hg.blk hS,hg.blk hN⟩)
theorem chunk0_in (n l Bs Bn cap : Nat) (A : Option Addr) (J Jx : List (Fin 0) → World → Prop) (W : World) (hJ : AbidesFrom W.heap.size J)
    (hS:Blk W Bs 174 #[.slice A 0 cap]) (hN:Blk W Bn 3 #[.int .i64 32]) (h0:J [] W) :
    CallsIn Fence.wide n Tryz.prog 226 #[.func (.yield l) #[] #[],.pointer (some ⟨Bs,0,none⟩),.pointer (some ⟨Bn,0,none⟩)] W λe W'=>(∃ v,e=.returned v)∧((∃ ys:List (Fin 0),ys.map (·.1)=List.range 0∧J ys W')∨(∃ pre:List (Fin 0),(∃ k,k≤0∧pre.map (·.1)=List.range k)∧Jx pre W')):=by
  refine Sy.enterP (args:=[.func (.yield l) #[] #[],.pointer (some ⟨Bs,0,none⟩),.pointer (some ⟨Bn,0,none⟩)]) Tryz.func226 rfl kL ?_
  refine sC ?_
  refine sP (.int .i64 0) ?_
  refine sG<|Sy.block ?_
  refine Sy.loopP 0 (λk1=>[(0,.func (.yield l) #[] #[]),(1,.pointer (some ⟨Bs,0,none⟩)),(2,.pointer (some ⟨Bn,0,none⟩)),(4,.int .i64 ((32*k1:Nat):Int))]) (λk1 w=>J [] w∧Blk w Bs 174 #[.slice A 0 cap]∧Blk w Bn 3 #[.int .i64 32]) (all_cons kR (all_cons kR (all_cons kR (all_cons kR all_nil)))) (λw hg=>⟨abides_gr hJ h0 hg,hg.blk hS,hg.blk hN⟩) (λk1 wr hk1 hz=>?_)
  clear hS hN
  obtain ⟨hj,hS,hN⟩:=hz
  refine Sy.seq<|sC ?_
  refine sP (.int .i64 ((32*k1:Nat):Int))<|sS (.slice A 0 cap) (Quiet.thereOne Bs 0 174 _ _ rfl kR hS.lt _ (hS.cell 0) Tryz.underlying174 rfl)<|sP (.int .i64 ((0:Nat):Int)) ?_
  obtain ⟨b1,hb1⟩:∃ z:Bool,z=decide (32*k1<0):=⟨_,rfl⟩
  refine sS (.bool b1) (Quiet.pure (exec_int .lss _ _ _ .i64 _ _ _ rfl rfl rfl (int_lss _ _ _ _ _ (by rw [hb1]; exact decide_eq_decide.2 (by omega))))) ?_
  refine sG ?_
  cases b1
  · have lb1:¬ (32*k1<0):=of_decide_eq_false hb1.symm
    refine sU<|Sy.exit<|Sy.then_exit<|Sy.then_exit ?_
    obtain rfl:k1=0:=by omega
    refine Sy.in_exit ?_
    exact Sy.retP rfl (λv w3 hg=>⟨⟨_,rfl⟩,.inl ⟨[],rfl,abides_gr hJ hj hg⟩⟩) (.inr rfl)
  · have lb1:32*k1<0:=of_decide_eq_true hb1.symm
    refine sT<|Sy.skip<|Sy.then_<|Sy.seq ?_
    exact absurd lb1 (by omega)
def TSrc (w:World) (A:Option Addr) (n:Nat) (T:Nat→Trm) (b o:Nat):Prop:=0<n→A=some ⟨b,o,none⟩∧b<w.heap.size∧∀ j,j<n→w.rangeAt b (o+j*13) (T j).cells
theorem chunk_stops (n Bs Bn n₀ b off m cap N : Nat) (A : Option Addr) (hN0 : N = (m + 31) / 32) (hm : m ≤ cap) (hm2 : m ≤ 4611686018427387904) (hA : 0 < m → A = some ⟨b, off, none⟩) (w : World) (hS : Blk w Bs 174 #[.slice A m cap]) (hN : Blk w Bn 3 #[.int .i64 32]) :
    SeqStopsK Fence.wide n Tryz.prog 226 #[.pointer (some ⟨Bs,0,none⟩),.pointer (some ⟨Bn,0,none⟩)] (chE b off m (N:=N)) (KpL n₀ [(Bs,174,#[.slice A m cap]),(Bn,3,#[.int .i64 32])]) (λys=>ys.map (·.1)=List.range N) (λpre=>∃ k,k≤N∧pre.map (·.1)=List.range k) N w:=λl J Jx W hW hJ hJx hY h0=>by
  have hS':=hS.below hW hS.lt
  have hN':=hN.below hW hN.lt
  rcases Nat.eq_zero_or_pos m with h | h
  · subst h
    obtain rfl:N=0:=hN0
    exact chunk0_in n l Bs Bn cap A J Jx W hJ hS' hN' h0
  · obtain rfl:=hA h
    exact chunk1_in n l Bs Bn n₀ b off m cap N hN0 hm hm2 J Jx W hJ hJx hY hS' hN' h0
end Cu
end
section
namespace Cu
open Go.RowKit Sy
theorem rangeN2 {w w':World} {g o o':Nat} {vs:List Value} (h:w.rangeAt g o vs) (hb:Below w.heap.size w w') (hg:g<w.heap.size) (e:o'=o):w'.rangeAt g o' vs:=λj v hj=>by
 rw [e]
 exact (Below.cell (p:=⟨g,o+j,none⟩) hb hg).trans (h j v hj)
set_option maxHeartbeats 4000000 in
set_option maxRecDepth 100000 in
theorem multi_any (w:World) (A:Option Addr) (b o n c:Nat) (T:Nat→Trm) (hnc:n≤c) (hc:n≤4611686018427387904) (hok:∀ j,(T j).ok) (hT:TSrc w A n T b o):Calls Tryz.prog 138 #[.slice A n c] w (Gets w (ptv (Ec.sumL finv (λt=>Ec.nm finv (T t).kn (T t).pt) (List.range n)))):=by
 obtain ⟨N,hN0⟩:∃ N,N=(n+31) / 32:=⟨_,rfl⟩
 obtain ⟨R,hR⟩:∃ R,R=ptJ (chL T n (List.range N)):=⟨_,rfl⟩
 have hRs:Ec.sumL finv (λt=>Ec.nm finv (T t).kn (T t).pt) (List.range n)=R:=by rw [hR,hN0]; exact (ptJ_rep (chL_all T n)).symm
 rw [hRs]
 have hRo:Ec.On R:=by rw [← hRs]; exact Ec.On.sumL fld _ λx _=>(T x).on.nm fld _
 obtain ⟨rx,ry,ri,_,_,eR,_,_⟩:=ptv_raw R hRo
 rw [eR]
 refine Sy.enterM (args:=[.slice A n c]) Tryz.func138 rfl kL ?_
 refine sC ?_
 refine sM 48 (pcs 0 0 false) (λg0=>?_)
 refine sA ?_
 refine sM 223 (tcs 0 0 0) (λg1=>?_)
 refine sG<|Sy.seq<|sC ?_
 refine sP (.slice A n c) ?_
 refine Sy.callN kR 189 #[.slice A n c,.int .i64 32] kF (λv M=>∃ g1 g2,v=.func (.func 226) #[] #[.pointer (some ⟨g1,0,none⟩),.pointer (some ⟨g2,0,none⟩)]∧M=[(g1,174,#[.slice A n c]),(g2,3,#[.int .i64 32])]) (λw _=>chunk_any w _ _ _) (λv M hR0=>?_)
 obtain ⟨u1,u2,rfl,rfl⟩:=hR0
 refine sG<|Sy.block ?_
 refine Sy.rangeF (α:=Fin N) 226 #[.pointer (some ⟨u1,0,none⟩),.pointer (some ⟨u2,0,none⟩)] kR kR (enters_of Tryz.func226 kR rfl) (chE b o n) [(u1,174,(#[.slice A n c])),(u2,3,(#[.int .i64 32]))] (λys=>ys.map (·.1)=List.range N) (λpre=>∃ k,k≤N∧pre.map (·.1)=List.range k) N (λ_=>rfl) (by decide) [g0,g1,u1,u2] (λ_=>True) (trivial) (λpre=>[(g0,48,(pcs 0 0 false)),(g1,223,(tcs ((chL T n (pre.map (·.1))).x.val) ((chL T n (pre.map (·.1))).y.val) ((chL T n (pre.map (·.1))).z.val))),(u1,174,(#[.slice A n c])),(u2,3,(#[.int .i64 32]))]) (λpre=>[(g0,48,(pcs 0 0 false)),(g1,223,(tcs ((chL T n (pre.map (·.1))).x.val) ((chL T n (pre.map (·.1))).y.val) ((chL T n (pre.map (·.1))).z.val))),(u1,174,(#[.slice A n c])),(u2,3,(#[.int .i64 32]))]) (λ_=>False) [true,true,true,true] kR (λ_=>rfl) ?_ ?_ 0 (λx gs=>[(3,.pointer (some ⟨g1,0,none⟩)),(4,chV b o n x.val)]) (λx gs=>[]) (λx gs h=>by cases gs with | nil=>rfl | cons _ _=>cases h) ?_ ?_ ?_ ?_
 ·intro w hw
  have hS:=hw.get (i:=2) rfl
  have hN:=hw.get (i:=3) rfl
  exact ⟨w,Below.refl _ _,chunk_stops 8 u1 u2 _ b o n c N A hN0 hnc hc (λh=>(hT h).1) w hS hN⟩
 ·intro p hp pre
  simp only [List.mem_cons,List.not_mem_nil,or_false] at hp ⊢
  rcases hp with rfl | rfl <;> simp
 ·intro l fz pre x
  refine Sy.regionR (by rintro ⟨_,_,h⟩; exact h) kR ⟨_,rfl⟩ ?_
  refine sP (chV b o n x.val) ?_
  refine Sy.nil ?_
  exact Sy.apN [] rfl (all_cons kR (all_cons kR all_nil)) [true,true,true,true] kR
 ·intro l fz pre x gs hgs hlen hH
  obtain rfl:gs=[]:=List.eq_nil_of_length_eq_zero hgs
  have hxN:=x.isLt
  have hn0:0<n:=by omega
  refine Sy.block ?_
  refine Sy.regionRD (by rintro ⟨_,_,h⟩; exact h) kR ⟨_,rfl⟩ (λj=>j == 4) kR ?_
  refine sD 0 rfl (tv ((chL T n (pre.map (·.1))).x.val) ((chL T n (pre.map (·.1))).y.val) ((chL T n (pre.map (·.1))).z.val)) (qL 1 g1 0 12 223 223 (tcs ((chL T n (pre.map (·.1))).x.val) ((chL T n (pre.map (·.1))).y.val) ((chL T n (pre.map (·.1))).z.val)) rfl Tryz.underlying223)<|sZ 1 rfl (chV b o n x.val) ?_
  obtain ⟨j1,hj1⟩:∃ z:J,z=muJ (λj=>T (x.val*32+j)) (szC n x.val) 64:=⟨_,rfl⟩
  refine sD 2 rfl (tv j1.x.val j1.y.val j1.z.val) (qG 191 #[chV b o n x.val] (λw hw=>by rw [hj1]; exact multi_c w b (o+32*x.val*13) (szC n x.val) (szC n x.val) (λj=>T (x.val*32+j)) (Nat.lt_of_lt_of_le (hT hn0).2.1 hw.below.size) (by unfold szC; omega) (λj=>hok _) (λj hj=>rangeN2 ((hT hn0).2.2 (x.val*32+j) (by unfold szC at hj; omega)) hw.below (hT hn0).2.1 (by omega)))) ?_
  obtain ⟨j2,hj2⟩:∃ z:J,z=addJ (chL T n (pre.map (·.1))) j1:=⟨_,rfl⟩
  refine sD 3 rfl (tv j2.x.val j2.y.val j2.z.val) (qF 190 #[tv ((chL T n (pre.map (·.1))).x.val) ((chL T n (pre.map (·.1))).y.val) ((chL T n (pre.map (·.1))).z.val),tv j1.x.val j1.y.val j1.z.val] (λw=>by rw [hj2]; exact addJ_c w (chL T n (pre.map (·.1))) j1))<|sX 4 rfl 1 g1 223 (tcs ((chL T n (pre.map (·.1))).x.val) ((chL T n (pre.map (·.1))).y.val) ((chL T n (pre.map (·.1))).z.val)) (tcs j2.x.val j2.y.val j2.z.val) (wS 0 223 (tcs j2.x.val j2.y.val j2.z.val) rfl) ?_
  refine sE ?_
  refine Sy.in_ ?_
  exact Sy.bpN [true,true,true,true] (M:=[(g0,48,(pcs 0 0 false)),(g1,223,(tcs j2.x.val j2.y.val j2.z.val)),(u1,174,(#[.slice A n c])),(u2,3,(#[.int .i64 32]))]) kR (bcons rfl (bcons (beq (by rw [hj2,hj1,List.map_append,List.map_singleton,chL_snoc]; rfl)) (bcons rfl (bcons rfl rfl)))) (trivial)
 ·intro D fz xs hS hH hD hm
  have hS0:xs.map (·.1)=List.range N:=hS
  refine Sy.in_<|sB ?_
  refine sS (tv ((chL T n (xs.map (·.1))).x.val) ((chL T n (xs.map (·.1))).y.val) ((chL T n (xs.map (·.1))).z.val)) (qL 1 g1 0 12 223 223 (tcs ((chL T n (xs.map (·.1))).x.val) ((chL T n (xs.map (·.1))).y.val) ((chL T n (xs.map (·.1))).z.val)) rfl Tryz.underlying223)<|sS (pv rx ry ri) (qF 192 #[tv ((chL T n (xs.map (·.1))).x.val) ((chL T n (xs.map (·.1))).y.val) ((chL T n (xs.map (·.1))).z.val)] (λw=>by rw [← eR,hR, ← hS0]; exact point_c w _))<|sW 0 g0 48 (pcs 0 0 false) (pcs rx ry ri) (wS 0 48 (pcs rx ry ri) rfl) ?_
  refine sG<|Sy.ret ?_
  exact Sy.retM1 (v:=pv rx ry ri) rfl (.inl (Res.cell (ty':=48) g0 0 (pcs rx ry ri) _ kR kR Tryz.underlying48 rfl kR kR)) hD hm
 ·intro D fz pre hS hx hD hm
  exact hx.elim
end Cu
end
section
namespace Cu
open Go.RowKit Sy
theorem one_part {w:World} {g:Nat} {vs:List Value} (h:w.rangeAt g 0 vs):∀ j,j<1→w.rangeAt g (0+j*13) vs:=λj hj=>by
 obtain rfl:j=0:=by omega
 exact h
def pX:Pt→Nat
 | none=>0
 | some (x,_)=>x.val
def pY:Pt→Nat
 | none=>0
 | some (_,y)=>y.val
def pI:Pt→Bool
 | none=>true
 | some _=>false
theorem ptv_parts:∀ P:Pt,ptv P=pv (pX P) (pY P) (pI P)
 | none=>rfl
 | some (_,_)=>rfl
theorem pX_lt:∀ P:Pt,pX P<K4
 | none=>by show 0<_; decide
 | some (x,_)=>lt4 x
theorem pY_lt:∀ P:Pt,pY P<K4
 | none=>by show 0<_; decide
 | some (_,y)=>lt4 y
theorem dec_parts:∀ {P:Pt},Ec.On P→dec (pX P) (pY P) (pI P)=P
 | none,_=>dec_zero
 | some (x,y),h=>dec_fin x y h
theorem rightB_parts {P:Pt} (h:Ec.On P):rightB (pX P) (pY P) (pI P)=true:=by
 rcases P with _ | ⟨x,y⟩
 ·rfl
 ·show rightB x.val y.val false=true
  rw [rb_xy,show y*y=x*x*x+7 from h]
  simp
set_option maxHeartbeats 4000000 in
set_option maxRecDepth 100000 in
theorem mul_any (w:World) (k x y:Nat) (i:Bool) (hk:k<K4) (hx:x<K4) (hy:y<K4):Calls Tryz.prog 108 #[fv k,pv x y i] w (Gets w (ptv (Ec.nm finv (k%Sc.pM) (dec x y i)))):=by
 obtain ⟨R,hR⟩:∃ R,R=Ec.sumL finv (λt=>Ec.nm finv ((λ_:Nat=>(⟨k,x,y,i⟩:Trm)) t).kn ((λ_:Nat=>(⟨k,x,y,i⟩:Trm)) t).pt) (List.range 1):=⟨_,rfl⟩
 have e:Ec.nm finv (k%Sc.pM) (dec x y i)=R:=by rw [hR]; exact (Ec.zero_add (inv:=finv) _).symm
 rw [e,ptv_parts]
 refine Sy.enter (args:=[fv k,pv x y i]) Tryz.func108 rfl kL ?_
 refine sC ?_
 refine sM 42 (fcs k) (λg0=>?_)
 refine sM 48 (pcs x y i) (λg1=>?_)
 refine sM 48 (pcs 0 0 false) (λg2=>?_)
 refine sA ?_
 refine sS (fv k) (qL 0 g0 0 4 42 42 (fcs k) rfl Tryz.underlying42)<|sS (pv x y i) (qL 1 g1 0 9 48 48 (pcs x y i) rfl Tryz.underlying48)<|sP (trv k x y i) ?_
 refine Sy.make kR 173 (trcs k x y i) (λg=>.slice (some ⟨g,0,none⟩) 1 1) kF (λg3=>?_)
 refine sS (pv (pX R) (pY R) (pI R)) (qG 138 #[.slice (some ⟨g3,0,none⟩) 1 1] (λw hw=>by rw [← ptv_parts,hR]; exact multi_any w _ g3 0 1 1 (λ_=>⟨k,x,y,i⟩) (Nat.le_refl _) (by decide) (λ_=>⟨hk,hx,hy⟩) (λ_=>⟨rfl,(hw.get (i:=3) rfl).lt,one_part (blk_range (hw.get (i:=3) rfl) kR)⟩)))<|sW 2 g2 48 (pcs 0 0 false) (pcs (pX R) (pY R) (pI R)) (wS 0 48 (pcs (pX R) (pY R) (pI R)) rfl) ?_
 refine sG<|Sy.ret ?_
 exact rC (v:=pv (pX R) (pY R) (pI R)) 48 g2 2 (pcs (pX R) (pY R) (pI R)) rfl Tryz.underlying48
end Cu
end
section
namespace Sc
open Go.RowKit Go.Lib
end Sc
end
section
namespace Cu
open Go.RowKit Sy
set_option maxRecDepth 100000
set_option maxHeartbeats 4000000
end Cu
end
section
namespace Cu
open Go.RowKit Sy
set_option maxRecDepth 100000
structure Pr where
 x:Nat
 y:Nat
 i:Bool
def Pr.cells (t:Pr):List Value:=fws t.x++(fws t.y++[Value.bool t.i])
def Pr.ok (t:Pr):Prop:=t.x<K4∧t.y<K4
end Cu
end
section
namespace Cu
open Go.RowKit Sy
set_option maxRecDepth 100000
end Cu
end
section
namespace Cu
open Go.ChangeShapes Go.WideShapes Go.ChangeAt Go.RowKit Go.Deep
theorem cells_eachL {W:World} {base:Nat} {a:Addr} {n:Nat} {cs:List Value} (h:W.cells? base a n=some cs):∀ (j:Nat) (v:Value),cs[j]? = some v→W.cell? (a.add j)=some v:=λj v hj=>by
 unfold World.cells? at h
 split at h
 ·have hl:=Lib.mapM_length h
  have hjl:j<n:=by
   have:=(List.getElem?_eq_some_iff.1 hj).1
   simp at hl
   omega
  obtain ⟨b,hb,hf⟩:=Lib.mapM_at h j j (by simp [hjl])
  rw [hb] at hj
  injection hj with hj
  rw [hf,hj]
 ·cases h
theorem cells_lenL {W:World} {base:Nat} {a:Addr} {n:Nat} {cs:List Value} (h:W.cells? base a n=some cs):cs.length=n:=by
 unfold World.cells? at h
 split at h
 ·have hl:=Lib.mapM_length h
  simpa using hl
 ·cases h
theorem choose_ltL {α:Type} [Inhabited α] {n:Nat} {p:Nat→α→Prop} (h:∀ i,i<n→∃ x,p i x) (q:α→Prop) (hq:q default) (hpq:∀ i x,p i x→q x):∃ f:Nat→α,(∀ i,q (f i))∧∀ i,i<n→p i (f i) :=
 ⟨λi=>if hi:i<n then Classical.choose (h i hi) else default,λi=>by
  by_cases hi:i<n
  ·simp only [hi,dif_pos]; exact hpq i _ (Classical.choose_spec (h i hi))
  ·simp only [hi,dif_neg,not_false_iff]; exact hq,λi hi=>by simp only [hi,dif_pos]; exact Classical.choose_spec (h i hi)⟩
theorem cell_spotL {w:World} {a:Addr} {v:Value} (h:w.cell? a=some v):∃ b o,a=⟨b,o,none⟩∧b<w.heap.size:=by
 obtain ⟨b,o,k⟩:=a
 unfold World.cell? at h
 cases k with
 | none =>
  refine ⟨b,o,rfl,?_⟩
  rcases Nat.lt_or_ge b w.heap.size with hl | hl
  ·exact hl
  ·simp [Array.getElem?_eq_none hl] at h
 | some k=>exfalso; cases hw:w.heap[b]? with
  | none=>simp [hw] at h
  | some ob=>cases ob <;> simp [hw] at h
theorem add_midL (b o n:Nat):(⟨b,o,none⟩:Addr).add n=⟨b,o+n,none⟩:=by unfold Addr.add; split <;> simp_all
theorem pt_trod {H:Type} {enc:TypeId×Value→H} {P:Program} {W:World} {t q:TypeId} {f0 f1 f2:Field} (ht:P.underlying t=some (.struct #[f0,f1,f2]))
  (h0:P.underlying f0.type=some (.array 4 q)) (h1:P.underlying f1.type=some (.array 4 q)) (h2:P.underlying f2.type=some .bool) (hq:P.underlying q=some (.int .u64))
  (hcq:P.cellsOf q=1) (c0:P.cellsOf f0.type=4) (c1:P.cellsOf f1.type=4) (c2:P.cellsOf f2.type=1) (o0:f0.offset=0) (o1:f1.offset=4) (o2:f2.offset=8)
  (fuel:Nat) (cs:List Value) (x:DataW H×List MemPlace) (hl:cs.length=9) (hf:DataW.trod enc P W 0 (λ_=>true) true fuel t cs=some x):∃ y:Pr,y.ok∧cs=y.cells:=by
 obtain ⟨y0,y1,y2,m,hx,_,g0,g1,g2⟩:=trod_struct3 ht hf
 obtain ⟨a0,a1,a2,a3,b0',b1,b2,b3,z,rfl⟩:∃ a0 a1 a2 a3 b0 b1 b2 b3 z,cs=[a0,a1,a2,a3,b0,b1,b2,b3,z]:=by
  match cs,hl with
  | [a0,a1,a2,a3,b0,b1,b2,b3,z],_=>exact ⟨a0,a1,a2,a3,b0,b1,b2,b3,z,rfl⟩
 rw [c0,o0] at g0
 rw [c1,o1] at g1
 rw [c2,o2] at g2
 obtain ⟨x,hx4,ex⟩:=words_trod h0 hq hcq (c0:=a0) (c1:=a1) (c2:=a2) (c3:=a3) (by simpa using g0)
 obtain ⟨y,hy4,ey⟩:=words_trod h1 hq hcq (c0:=b0') (c1:=b1) (c2:=b2) (c3:=b3) (by simpa using g1)
 obtain ⟨i,ei⟩:∃ i,z=.bool i:=by
  have g2':DataW.trod enc P W 0 (λ_=>true) true m f2.type [z]=some y2:=by simpa using g2
  obtain ⟨b,e,_⟩:=DataW.trod_bool h2 g2'
  simp only [List.cons.injEq,and_true] at e
  exact ⟨b,e⟩
 subst ei
 refine ⟨⟨x,y,i⟩,⟨hx4,hy4⟩,?_⟩
 unfold Pr.cells
 rw [← ex, ← ey]
 rfl
instance:Inhabited Pr:=⟨⟨0,0,false⟩⟩
theorem K4_pos:0<K4:=by decide
set_option maxRecDepth 100000 in
theorem pt_trod' {H:Type} {enc:TypeId×Value→H} {W:World} (fuel:Nat) (cs:List Value) (x:DataW H×List MemPlace) (hl:cs.length=9) (hf:DataW.trod enc Tryz.prog W 0 (λ_=>true) true fuel 48 cs=some x):∃ y:Pr,y.ok∧cs=y.cells :=
 pt_trod Tryz.underlying48 Tryz.underlying46 Tryz.underlying46 Tryz.underlying4 Tryz.underlying40 (by kernel_rfl) (by kernel_rfl) (by kernel_rfl) (by kernel_rfl) rfl rfl rfl fuel cs x hl hf
end Cu
end
section
namespace Cu
open Go.ChangeShapes Go.WideShapes Go.ChangeAt Go.RowKit Go.Deep
theorem split2 {α:Type} {cs:List α} {a b:Nat} (h:cs.length=a+b):cs=(cs.drop 0).take a++(cs.drop a).take b:=by
 rw [List.drop_zero,List.take_of_length_le (l:=cs.drop a) (by rw [List.length_drop]; omega),List.take_append_drop]
theorem split3 {α:Type} {cs:List α} {a b c:Nat} (h:cs.length=a+(b+c)):cs=(cs.drop 0).take a++((cs.drop a).take b++(cs.drop (a+b)).take c):=by
 have h2:=split2 (cs:=cs.drop a) (a:=b) (b:=c) (by rw [List.length_drop]; omega)
 rw [List.drop_zero,List.drop_drop] at h2
 rw [← h2,List.drop_zero,List.take_append_drop]
theorem split4 {α:Type} {cs:List α} {a b c d:Nat} (h:cs.length=a+(b+(c+d))):cs=(cs.drop 0).take a++((cs.drop a).take b++((cs.drop (a+b)).take c++(cs.drop (a+b+c)).take d)):=by
 have h2:=split3 (cs:=cs.drop a) (a:=b) (b:=c) (c:=d) (by rw [List.length_drop]; omega)
 rw [List.drop_zero,List.drop_drop,List.drop_drop, ← Nat.add_assoc] at h2
 rw [← h2,List.drop_zero,List.take_append_drop]
theorem four_words {H:Type} {enc:TypeId×Value→H} {P:Program} {W:World} {fuel:Nat} {t q:TypeId} {cs:List Value} {x:DataW H×List MemPlace} (hl:cs.length=4) (ht:P.underlying t=some (.array 4 q)) (hq:P.underlying q=some (.int .u64)) (hcq:P.cellsOf q=1) (hf:DataW.trod enc P W 0 (λ_=>true) true fuel t cs=some x):∃ n:Nat,n<K4∧cs=fws n:=by
 match cs,hl with
 | [a,b,c,d],_=>exact words_trod ht hq hcq hf
end Cu
end
section
namespace Cu
open Go.RowKit Sy
end Cu
end
section
namespace Cu
open Go.RowKit Sy
def encS:Pt→List UInt8
 | none=>List.replicate 33 0
 | some (x,y)=>(if y.val%2=1 then 3 else 2)::bytesS x.val
theorem encS_length:∀ P,(encS P).length=33
 | none=>rfl
 | some (x,y)=>by simp [encS,bytesS_length]
theorem list32 (m:List UInt8) (h:m.length=32):∃ a0 a1 a2 a3 a4 a5 a6 a7 a8 a9 a10 a11 a12 a13 a14 a15 a16 a17 a18 a19 a20 a21 a22 a23 a24 a25 a26 a27 a28 a29 a30 a31:UInt8,m=[a0,a1,a2,a3,a4,a5,a6,a7,a8,a9,a10,a11,a12,a13,a14,a15,a16,a17,a18,a19,a20,a21,a22,a23,a24,a25,a26,a27,a28,a29,a30,a31]:=by
 match m,h with
 | [a0,a1,a2,a3,a4,a5,a6,a7,a8,a9,a10,a11,a12,a13,a14,a15,a16,a17,a18,a19,a20,a21,a22,a23,a24,a25,a26,a27,a28,a29,a30,a31],_=>exact ⟨a0,a1,a2,a3,a4,a5,a6,a7,a8,a9,a10,a11,a12,a13,a14,a15,a16,a17,a18,a19,a20,a21,a22,a23,a24,a25,a26,a27,a28,a29,a30,a31,  rfl⟩
end Cu
end
section
namespace Cu
open Go.RowKit Sy
set_option maxRecDepth 100000
set_option maxHeartbeats 4000000
theorem enc_none (w:World) (x y:Nat) (i:Bool) (hx:x<K4) (hy:y<K4) (h:dec x y i=none):Calls Tryz.prog 162 #[pv x y i] w (Gets w (.agg ((encS none).map bv).toArray)):=by
 refine Sy.enter (args:=[pv x y i]) Tryz.func162 rfl kL ?_
 refine sC ?_
 refine sM 48 (pcs x y i) (λg0=>?_)
 refine Sy.make kR 191 (Zl 33).toArray ptr kF (λg1=>?_)
 refine sA ?_
 refine Sy.make kR 191 (Zl 33).toArray ptr kF (λg2=>?_)
 refine sA ?_
 refine sS (pv x y i) (qL 0 g0 0 9 48 48 (pcs x y i) rfl Tryz.underlying48)<|sS (pv 0 0 true) (qF 202 #[pv x y i] (λw=>by have hrr:=right_c w x y i lK lK; rw [h] at hrr; exact hrr))<|sW 0 g0 48 (pcs x y i) (pcs 0 0 true) (wS 0 48 (pcs 0 0 true) rfl) ?_
 refine sG<|Sy.seq<|Sy.seq ?_
 refine Sy.regionD (λj=>false) kR ?_
 refine sD 0 rfl (pv 0 0 true) (qL 0 g0 0 9 48 48 (pcs 0 0 true) rfl Tryz.underlying48)<|sD 1 rfl (pv 0 0 true) (qF 203 #[] (zero_c))<|sD 2 rfl (.bool true) (Quiet.pure (λw=>eql_pt w _ _ _ _ 0 0 true 0 0 true rfl rfl rfl (by decide) (by decide) (by decide) (by decide))) ?_
 refine sI ?_
 refine sT<|sC ?_
 refine sS (.agg ((Zl 33):List Value).toArray) (Quiet.load 2 g2 0 33 191 191 (Zl 33).toArray _ _ rfl kR kR Tryz.underlying191 rfl kR _ kR kL) ?_
 refine Sy.write kR 1 g1 191 (Zl 33).toArray (Zl 33).toArray kR (Writes.store 0 191 (Zl 33).toArray _ _ rfl kR kR kR kL kR kR) ?_
 refine sG<|Sy.ret<|Sy.then_ret ?_
 rw [show (.agg ((encS none).map bv).toArray:Value)=.agg ((Zl 33):List Value).toArray from by kernel_rfl]
 exact Sy.ret1 (v:=.agg ((Zl 33):List Value).toArray) rfl (.inl (Res.cell (ty':=191) g1 1 (Zl 33).toArray _ kR kR Tryz.underlying191 rfl kR kR))
theorem enc_some (w:World) (x y:Nat) (i:Bool) (hx:x<K4) (hy:y<K4) (u v:Fp) (h:dec x y i=some (u,v)):Calls Tryz.prog 162 #[pv x y i] w (Gets w (.agg ((encS (some (u,v))).map bv).toArray)):=by
 obtain ⟨a0,a1,a2,a3,a4,a5,a6,a7,a8,a9,a10,a11,a12,a13,a14,a15,a16,a17,a18,a19,a20,a21,a22,a23,a24,a25,a26,a27,a28,a29,a30,a31,hm⟩:=list32 (bytesS u.val) (bytesS_length _)
 have cB:∀ w,Calls Tryz.prog 213 #[fv u.val] w (Gets w (.agg ((bv a0::bv a1::[bv a2,bv a3,bv a4,bv a5,bv a6,bv a7,bv a8,bv a9,bv a10,bv a11,bv a12,bv a13,bv a14,bv a15,bv a16,bv a17,bv a18,bv a19,bv a20,bv a21,bv a22,bv a23,bv a24,bv a25,bv a26,bv a27,bv a28,bv a29,bv a30,bv a31]):List Value).toArray)):=λw=>by
  have hh:=bytes_any w u.val (lt4 u)
  rw [Nat.mod_eq_of_lt u.isLt,hm] at hh
  exact hh
 refine Sy.enter (args:=[pv x y i]) Tryz.func162 rfl kL ?_
 refine sC ?_
 refine sM 48 (pcs x y i) (λg0=>?_)
 refine Sy.make kR 191 (Zl 33).toArray ptr kF (λg1=>?_)
 refine sA ?_
 refine Sy.make kR 191 (Zl 33).toArray ptr kF (λg2=>?_)
 refine sA ?_
 refine sS (pv x y i) (qL 0 g0 0 9 48 48 (pcs x y i) rfl Tryz.underlying48)<|sS (pv u.val v.val false) (qF 202 #[pv x y i] (λw=>by have hrr:=right_c w x y i lK lK; rw [h] at hrr; exact hrr))<|sW 0 g0 48 (pcs x y i) (pcs u.val v.val false) (wS 0 48 (pcs u.val v.val false) rfl) ?_
 refine sG<|Sy.seq<|Sy.seq ?_
 refine Sy.regionD (λj=>false) kR ?_
 refine sD 0 rfl (pv u.val v.val false) (qL 0 g0 0 9 48 48 (pcs u.val v.val false) rfl Tryz.underlying48)<|sD 1 rfl (pv 0 0 true) (qF 203 #[] (zero_c))<|sD 2 rfl (.bool false) (Quiet.pure (λw=>eql_pt_ne w _ _ _ _ _ _ _ _ _ _ rfl rfl rfl lK lK lK lK (by decide))) ?_
 refine sI ?_
 refine sU<|Sy.skip<|sB ?_
 refine sP (.pointer (some ⟨g2,0,none⟩)) ?_
 refine Sy.write kR 2 g2 191 (Zl 33).toArray (.int .u8 2::Zl 32).toArray kR (wO 0 5 (.int .u8 2) rfl) ?_
 refine sG<|Sy.seq<|sC ?_
 refine sP (.pointer (some ⟨g0,4,none⟩))<|sS (fv v.val) (qL 0 g0 4 4 48 46 (pcs u.val v.val false) rfl Tryz.underlying46) ?_
 obtain ⟨b1,hb1⟩:∃ z:Bool,z=decide (v.val%pM%2=1):=⟨_,rfl⟩
 refine sS (.bool b1) (qF 212 #[fv v.val] (λw=>by rw [hb1]; exact odd_any w v.val lK)) ?_
 refine sG ?_
 cases b1
 ·refine sU<|Sy.skip<|sB ?_
  refine sP (.pointer (some ⟨g0,0,none⟩))<|sS (fv u.val) (qL 0 g0 0 4 48 46 (pcs u.val v.val false) rfl Tryz.underlying46)<|sS (.agg ((bv a0::bv a1::[bv a2,bv a3,bv a4,bv a5,bv a6,bv a7,bv a8,bv a9,bv a10,bv a11,bv a12,bv a13,bv a14,bv a15,bv a16,bv a17,bv a18,bv a19,bv a20,bv a21,bv a22,bv a23,bv a24,bv a25,bv a26,bv a27,bv a28,bv a29,bv a30,bv a31]):List Value).toArray) (qF 213 #[fv u.val] (cB)) ?_
  refine Sy.make kR 22 (Zl 32).toArray ptr kF (λg3=>?_)
  refine Sy.write kR 3 g3 22 (Zl 32).toArray (bv a0::bv a1::[bv a2,bv a3,bv a4,bv a5,bv a6,bv a7,bv a8,bv a9,bv a10,bv a11,bv a12,bv a13,bv a14,bv a15,bv a16,bv a17,bv a18,bv a19,bv a20,bv a21,bv a22,bv a23,bv a24,bv a25,bv a26,bv a27,bv a28,bv a29,bv a30,bv a31]).toArray kR (Writes.store 0 22 (bv a0::bv a1::[bv a2,bv a3,bv a4,bv a5,bv a6,bv a7,bv a8,bv a9,bv a10,bv a11,bv a12,bv a13,bv a14,bv a15,bv a16,bv a17,bv a18,bv a19,bv a20,bv a21,bv a22,bv a23,bv a24,bv a25,bv a26,bv a27,bv a28,bv a29,bv a30,bv a31]).toArray _ _ rfl kR kR kR kL kR kR) ?_
  refine sH (λj=>j == 2) ?_
  refine sZ 0 rfl (.slice (some ⟨g2,1,none⟩) 32 32)<|sZ 1 rfl (.slice (some ⟨g3,0,none⟩) 32 32) ?_
  refine Sy.writeVD 2 rfl kR (by rfl) kR 2 g2 191 (.int .u8 2::Zl 32).toArray (.int .u8 2::bv a0::bv a1::[bv a2,bv a3,bv a4,bv a5,bv a6,bv a7,bv a8,bv a9,bv a10,bv a11,bv a12,bv a13,bv a14,bv a15,bv a16,bv a17,bv a18,bv a19,bv a20,bv a21,bv a22,bv a23,bv a24,bv a25,bv a26,bv a27,bv a28,bv a29,bv a30,bv a31]).toArray (.int .i64 32) kR (WritesV.copy _ _ 24 24 _ rfl Tryz.underlying24 kR 2 g2 1 32 32 191 (.int .u8 2::Zl 32).toArray (.int .u8 2::bv a0::bv a1::[bv a2,bv a3,bv a4,bv a5,bv a6,bv a7,bv a8,bv a9,bv a10,bv a11,bv a12,bv a13,bv a14,bv a15,bv a16,bv a17,bv a18,bv a19,bv a20,bv a21,bv a22,bv a23,bv a24,bv a25,bv a26,bv a27,bv a28,bv a29,bv a30,bv a31]).toArray kR kR 3 g3 0 32 32 22 (bv a0::bv a1::[bv a2,bv a3,bv a4,bv a5,bv a6,bv a7,bv a8,bv a9,bv a10,bv a11,bv a12,bv a13,bv a14,bv a15,bv a16,bv a17,bv a18,bv a19,bv a20,bv a21,bv a22,bv a23,bv a24,bv a25,bv a26,bv a27,bv a28,bv a29,bv a30,bv a31]).toArray kR kR (bv a0::bv a1::[bv a2,bv a3,bv a4,bv a5,bv a6,bv a7,bv a8,bv a9,bv a10,bv a11,bv a12,bv a13,bv a14,bv a15,bv a16,bv a17,bv a18,bv a19,bv a20,bv a21,bv a22,bv a23,bv a24,bv a25,bv a26,bv a27,bv a28,bv a29,bv a30,bv a31]) kR kR (all_one _ kR) kL kR) ?_
  refine sE ?_
  refine sB ?_
  refine sS (.agg ((.int .u8 2::bv a0::bv a1::[bv a2,bv a3,bv a4,bv a5,bv a6,bv a7,bv a8,bv a9,bv a10,bv a11,bv a12,bv a13,bv a14,bv a15,bv a16,bv a17,bv a18,bv a19,bv a20,bv a21,bv a22,bv a23,bv a24,bv a25,bv a26,bv a27,bv a28,bv a29,bv a30,bv a31]):List Value).toArray) (Quiet.load 2 g2 0 33 191 191 (.int .u8 2::bv a0::bv a1::[bv a2,bv a3,bv a4,bv a5,bv a6,bv a7,bv a8,bv a9,bv a10,bv a11,bv a12,bv a13,bv a14,bv a15,bv a16,bv a17,bv a18,bv a19,bv a20,bv a21,bv a22,bv a23,bv a24,bv a25,bv a26,bv a27,bv a28,bv a29,bv a30,bv a31]).toArray _ _ rfl kR kR Tryz.underlying191 rfl kR _ kR kL) ?_
  refine Sy.write kR 1 g1 191 (Zl 33).toArray (.int .u8 2::bv a0::bv a1::[bv a2,bv a3,bv a4,bv a5,bv a6,bv a7,bv a8,bv a9,bv a10,bv a11,bv a12,bv a13,bv a14,bv a15,bv a16,bv a17,bv a18,bv a19,bv a20,bv a21,bv a22,bv a23,bv a24,bv a25,bv a26,bv a27,bv a28,bv a29,bv a30,bv a31]).toArray kR (Writes.store 0 191 (.int .u8 2::bv a0::bv a1::[bv a2,bv a3,bv a4,bv a5,bv a6,bv a7,bv a8,bv a9,bv a10,bv a11,bv a12,bv a13,bv a14,bv a15,bv a16,bv a17,bv a18,bv a19,bv a20,bv a21,bv a22,bv a23,bv a24,bv a25,bv a26,bv a27,bv a28,bv a29,bv a30,bv a31]).toArray _ _ rfl kR kR kR kL kR kR) ?_
  refine sG<|Sy.ret ?_
  rw [show (.agg ((encS (some (u,v))).map bv).toArray:Value)=.agg ((.int .u8 2::bv a0::bv a1::[bv a2,bv a3,bv a4,bv a5,bv a6,bv a7,bv a8,bv a9,bv a10,bv a11,bv a12,bv a13,bv a14,bv a15,bv a16,bv a17,bv a18,bv a19,bv a20,bv a21,bv a22,bv a23,bv a24,bv a25,bv a26,bv a27,bv a28,bv a29,bv a30,bv a31]):List Value).toArray from by
   have e:encS (some (u,v))=(if v.val%2=1 then 3 else 2)::bytesS u.val:=rfl
   rw [e,hm,if_neg (by have q:=hb1.symm; rw [Nat.mod_eq_of_lt v.isLt] at q; exact of_decide_eq_false q)]
   rfl]
  exact Sy.ret1 (v:=.agg ((.int .u8 2::bv a0::bv a1::[bv a2,bv a3,bv a4,bv a5,bv a6,bv a7,bv a8,bv a9,bv a10,bv a11,bv a12,bv a13,bv a14,bv a15,bv a16,bv a17,bv a18,bv a19,bv a20,bv a21,bv a22,bv a23,bv a24,bv a25,bv a26,bv a27,bv a28,bv a29,bv a30,bv a31]):List Value).toArray) rfl (.inl (Res.cell (ty':=191) g1 1 (.int .u8 2::bv a0::bv a1::[bv a2,bv a3,bv a4,bv a5,bv a6,bv a7,bv a8,bv a9,bv a10,bv a11,bv a12,bv a13,bv a14,bv a15,bv a16,bv a17,bv a18,bv a19,bv a20,bv a21,bv a22,bv a23,bv a24,bv a25,bv a26,bv a27,bv a28,bv a29,bv a30,bv a31]).toArray _ kR kR Tryz.underlying191 rfl kR kR))
 ·refine sT<|Sy.region ?_
  refine sP (.pointer (some ⟨g2,0,none⟩)) ?_
  refine Sy.write kR 2 g2 191 (.int .u8 2::Zl 32).toArray (.int .u8 3::Zl 32).toArray kR (wO 0 5 (.int .u8 3) rfl) ?_
  refine sA ?_
  refine sP (.pointer (some ⟨g0,0,none⟩))<|sS (fv u.val) (qL 0 g0 0 4 48 46 (pcs u.val v.val false) rfl Tryz.underlying46)<|sS (.agg ((bv a0::bv a1::[bv a2,bv a3,bv a4,bv a5,bv a6,bv a7,bv a8,bv a9,bv a10,bv a11,bv a12,bv a13,bv a14,bv a15,bv a16,bv a17,bv a18,bv a19,bv a20,bv a21,bv a22,bv a23,bv a24,bv a25,bv a26,bv a27,bv a28,bv a29,bv a30,bv a31]):List Value).toArray) (qF 213 #[fv u.val] (cB)) ?_
  refine Sy.make kR 22 (Zl 32).toArray ptr kF (λg4=>?_)
  refine Sy.write kR 3 g4 22 (Zl 32).toArray (bv a0::bv a1::[bv a2,bv a3,bv a4,bv a5,bv a6,bv a7,bv a8,bv a9,bv a10,bv a11,bv a12,bv a13,bv a14,bv a15,bv a16,bv a17,bv a18,bv a19,bv a20,bv a21,bv a22,bv a23,bv a24,bv a25,bv a26,bv a27,bv a28,bv a29,bv a30,bv a31]).toArray kR (Writes.store 0 22 (bv a0::bv a1::[bv a2,bv a3,bv a4,bv a5,bv a6,bv a7,bv a8,bv a9,bv a10,bv a11,bv a12,bv a13,bv a14,bv a15,bv a16,bv a17,bv a18,bv a19,bv a20,bv a21,bv a22,bv a23,bv a24,bv a25,bv a26,bv a27,bv a28,bv a29,bv a30,bv a31]).toArray _ _ rfl kR kR kR kL kR kR) ?_
  refine sH (λj=>j == 2) ?_
  refine sZ 0 rfl (.slice (some ⟨g2,1,none⟩) 32 32)<|sZ 1 rfl (.slice (some ⟨g4,0,none⟩) 32 32) ?_
  refine Sy.writeVD 2 rfl kR (by rfl) kR 2 g2 191 (.int .u8 3::Zl 32).toArray (.int .u8 3::bv a0::bv a1::[bv a2,bv a3,bv a4,bv a5,bv a6,bv a7,bv a8,bv a9,bv a10,bv a11,bv a12,bv a13,bv a14,bv a15,bv a16,bv a17,bv a18,bv a19,bv a20,bv a21,bv a22,bv a23,bv a24,bv a25,bv a26,bv a27,bv a28,bv a29,bv a30,bv a31]).toArray (.int .i64 32) kR (WritesV.copy _ _ 24 24 _ rfl Tryz.underlying24 kR 2 g2 1 32 32 191 (.int .u8 3::Zl 32).toArray (.int .u8 3::bv a0::bv a1::[bv a2,bv a3,bv a4,bv a5,bv a6,bv a7,bv a8,bv a9,bv a10,bv a11,bv a12,bv a13,bv a14,bv a15,bv a16,bv a17,bv a18,bv a19,bv a20,bv a21,bv a22,bv a23,bv a24,bv a25,bv a26,bv a27,bv a28,bv a29,bv a30,bv a31]).toArray kR kR 3 g4 0 32 32 22 (bv a0::bv a1::[bv a2,bv a3,bv a4,bv a5,bv a6,bv a7,bv a8,bv a9,bv a10,bv a11,bv a12,bv a13,bv a14,bv a15,bv a16,bv a17,bv a18,bv a19,bv a20,bv a21,bv a22,bv a23,bv a24,bv a25,bv a26,bv a27,bv a28,bv a29,bv a30,bv a31]).toArray kR kR (bv a0::bv a1::[bv a2,bv a3,bv a4,bv a5,bv a6,bv a7,bv a8,bv a9,bv a10,bv a11,bv a12,bv a13,bv a14,bv a15,bv a16,bv a17,bv a18,bv a19,bv a20,bv a21,bv a22,bv a23,bv a24,bv a25,bv a26,bv a27,bv a28,bv a29,bv a30,bv a31]) kR kR (all_one _ kR) kL kR) ?_
  refine sE ?_
  refine sB ?_
  refine sS (.agg ((.int .u8 3::bv a0::bv a1::[bv a2,bv a3,bv a4,bv a5,bv a6,bv a7,bv a8,bv a9,bv a10,bv a11,bv a12,bv a13,bv a14,bv a15,bv a16,bv a17,bv a18,bv a19,bv a20,bv a21,bv a22,bv a23,bv a24,bv a25,bv a26,bv a27,bv a28,bv a29,bv a30,bv a31]):List Value).toArray) (Quiet.load 2 g2 0 33 191 191 (.int .u8 3::bv a0::bv a1::[bv a2,bv a3,bv a4,bv a5,bv a6,bv a7,bv a8,bv a9,bv a10,bv a11,bv a12,bv a13,bv a14,bv a15,bv a16,bv a17,bv a18,bv a19,bv a20,bv a21,bv a22,bv a23,bv a24,bv a25,bv a26,bv a27,bv a28,bv a29,bv a30,bv a31]).toArray _ _ rfl kR kR Tryz.underlying191 rfl kR _ kR kL) ?_
  refine Sy.write kR 1 g1 191 (Zl 33).toArray (.int .u8 3::bv a0::bv a1::[bv a2,bv a3,bv a4,bv a5,bv a6,bv a7,bv a8,bv a9,bv a10,bv a11,bv a12,bv a13,bv a14,bv a15,bv a16,bv a17,bv a18,bv a19,bv a20,bv a21,bv a22,bv a23,bv a24,bv a25,bv a26,bv a27,bv a28,bv a29,bv a30,bv a31]).toArray kR (Writes.store 0 191 (.int .u8 3::bv a0::bv a1::[bv a2,bv a3,bv a4,bv a5,bv a6,bv a7,bv a8,bv a9,bv a10,bv a11,bv a12,bv a13,bv a14,bv a15,bv a16,bv a17,bv a18,bv a19,bv a20,bv a21,bv a22,bv a23,bv a24,bv a25,bv a26,bv a27,bv a28,bv a29,bv a30,bv a31]).toArray _ _ rfl kR kR kR kL kR kR) ?_
  refine sG<|Sy.ret ?_
  rw [show (.agg ((encS (some (u,v))).map bv).toArray:Value)=.agg ((.int .u8 3::bv a0::bv a1::[bv a2,bv a3,bv a4,bv a5,bv a6,bv a7,bv a8,bv a9,bv a10,bv a11,bv a12,bv a13,bv a14,bv a15,bv a16,bv a17,bv a18,bv a19,bv a20,bv a21,bv a22,bv a23,bv a24,bv a25,bv a26,bv a27,bv a28,bv a29,bv a30,bv a31]):List Value).toArray from by
   have e:encS (some (u,v))=(if v.val%2=1 then 3 else 2)::bytesS u.val:=rfl
   rw [e,hm,if_pos (by have q:=hb1.symm; rw [Nat.mod_eq_of_lt v.isLt] at q; exact of_decide_eq_true q)]
   rfl]
  exact Sy.ret1 (v:=.agg ((.int .u8 3::bv a0::bv a1::[bv a2,bv a3,bv a4,bv a5,bv a6,bv a7,bv a8,bv a9,bv a10,bv a11,bv a12,bv a13,bv a14,bv a15,bv a16,bv a17,bv a18,bv a19,bv a20,bv a21,bv a22,bv a23,bv a24,bv a25,bv a26,bv a27,bv a28,bv a29,bv a30,bv a31]):List Value).toArray) rfl (.inl (Res.cell (ty':=191) g1 1 (.int .u8 3::bv a0::bv a1::[bv a2,bv a3,bv a4,bv a5,bv a6,bv a7,bv a8,bv a9,bv a10,bv a11,bv a12,bv a13,bv a14,bv a15,bv a16,bv a17,bv a18,bv a19,bv a20,bv a21,bv a22,bv a23,bv a24,bv a25,bv a26,bv a27,bv a28,bv a29,bv a30,bv a31]).toArray _ kR kR Tryz.underlying191 rfl kR kR))
theorem enc_any (w:World) (x y:Nat) (i:Bool) (hx:x<K4) (hy:y<K4):Calls Tryz.prog 162 #[pv x y i] w (Gets w (.agg ((encS (dec x y i)).map bv).toArray)):=by
 rcases h:dec x y i with _ | ⟨u,v⟩
 ·exact enc_none w x y i hx hy h
 ·exact enc_some w x y i hx hy u v h
end Cu
end
section
namespace Cu
open Go.RowKit Sy
set_option maxRecDepth 100000
set_option maxHeartbeats 4000000
end Cu
end
section
namespace Cu
open Go.RowKit Sy
theorem setAll_all:∀ (vs:List Value) (o:Nat) (cs:Array Value),o+vs.length=cs.size→setAll cs o vs=(cs.toList.take o++vs).toArray
 | [],o,cs,h=>by
  rw [List.append_nil,List.take_of_length_le (by simp at h ⊢; omega)]
  simp [setAll]
 | v::r,o,cs,h=>by
  have hlt:o<cs.size:=by simp at h; omega
  rw [setAll,setAll_all r (o+1) _ (by simp at h ⊢; omega)]
  congr 1
  rw [Array.toList_setIfInBounds,List.take_set,List.take_succ_eq_append_getElem (by simpa using hlt),List.set_append_right _ _ (by rw [List.length_take]; exact Nat.min_le_left _ _)]
  have:(cs.toList.take o).length=o:=by simp; omega
  simp [this]
theorem key_set (cs:Array Value) (l:List UInt8) (h:l.length=cs.size):setAll cs 0 (l.map bv).toArray.toList=(l.map bv).toArray:=by
 have:=setAll_all (l.map bv) 0 cs (by simp; omega)
 simpa using this
theorem key_sz (l:List UInt8) {n:Nat} (h:l.length=n):(l.map bv).toArray.size=n:=by simp; omega
theorem key_one (l:List UInt8):(l.map bv).toArray.all (·.oneCell')=true:=by simp [bv,Value.oneCell']
end Cu
end
end Go.Proofs.YtmennpefjofhjaaGreatDoor
