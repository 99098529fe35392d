/-
  Texts of ours, put together: SymE, RowZ, FoldZ, RefFold, RefAdd, MulZ, RefMul, PowZ, RefPow, NumB, FeOwn, RefBytes, CrvC.
-/
import Derived.Test.YtlooclodlpcglaaGreatDoorBV2
set_option linter.unusedVariables false
set_option linter.unusedSimpArgs false
namespace Go.Proofs.YtlooclodlpcglaaGreatDoor
section
namespace Sy
open Go.RowKit
theorem Ch:∀ (vs:List Value) (o:Nat) (cs:Array Value),o+vs.length≤cs.size→setAll cs o vs=(cs.toList.take o++(vs++cs.toList.drop (o+vs.length))).toArray
 | [],o,cs,_=>by simp [setAll,List.take_append_drop]
 | v::r,o,cs,h=>by
  simp only [List.length_cons] at h
  rw [setAll,Ch r (o+1) _ (by simp; omega)]
  congr 1
  have hlt:o<cs.toList.length:=by simp; omega
  rw [Array.toList_setIfInBounds,List.take_set,List.take_add_one,List.drop_set_of_lt (by omega),List.getElem?_eq_getElem hlt,List.set_append_right _ _ (by simp; omega)]
  have e:o+1+r.length=o+(r.length+1):=by omega
  simp [Nat.min_eq_left (Nat.le_of_lt (show o<cs.size by omega)),e]
def AV (f:Nat→List Value) (n:Nat):List Value:=(List.range n).flatMap f
section
variable {s:Nat} {f:Nat→List Value}
theorem EB (n:Nat):AV f (n+1)=AV f n++f n:=by simp [AV,List.range_succ]
theorem As (h:∀ k,(f k).length=s):∀ n,(AV f n).length=n*s
 | 0=>by simp [AV]
 | n+1=>by rw [EB,List.length_append,As h n,h,Nat.succ_mul]
theorem Jw (k:Nat):∀ m,AV f (k+m)=AV f k++AV (λj=>f (k+j)) m
 | 0=>by simp [AV]
 | m+1=>by rw [← Nat.add_assoc,EB,Jw k m,EB,List.append_assoc]
theorem Cw {n k:Nat} (hk:k<n):AV f n=AV f k++(f k++AV (λj=>f (k+1+j)) (n - k - 1)):=by
 obtain ⟨m,rfl⟩:∃ m,n=k+1+m:=⟨n - k - 1,by omega⟩
 rw [Jw,EB,List.append_assoc,show k+1+m - k - 1=m by omega]
theorem Be {g:Nat→List Value} {n:Nat} (h:∀ k,k<n→f k=g k):AV f n=AV g n:=by
 unfold AV
 rw [List.flatMap_def,List.flatMap_def]
 exact congrArg List.flatten (List.map_congr_left λk hk=>h k (List.mem_range.1 hk))
theorem Eo (h:∀ k,(f k).length=s) {n k o:Nat} (hk:k<n) (ho:o=k*s):((AV f n).drop o).take s=f k:=by
 subst ho
 rw [Cw hk,List.drop_append_of_le_length (by rw [As h]; exact Nat.le_refl _),List.drop_eq_nil_of_le (by rw [As h]; exact Nat.le_refl _),List.nil_append,List.take_append_of_le_length (by rw [h]; exact Nat.le_refl _),List.take_of_length_le (by rw [h]; exact Nat.le_refl _)]
theorem Pu (h:∀ k,(f k).length=s) {n k o e m:Nat} (hk:k<n) (ho:o=k*s+e) (hm:e+m≤s):((AV f n).drop o).take m=((f k).drop e).take m:=by
 subst ho
 rw [← Eo h hk rfl,List.drop_take,List.drop_drop,List.take_take,Nat.min_eq_left (by omega)]
theorem Gm (h:∀ k,(f k).length=s) {v:List Value} (hv:v.length=s) {n k o:Nat} (hk:k<n) (ho:o=k*s):setAll (AV f n).toArray o v=(AV (λj=>if j=k then v else f j) n).toArray:=by
 subst ho
 have hl:=As h (f:=f)
 have hks:k*s+s≤n*s:=by rw [← Nat.succ_mul]; exact Nat.mul_le_mul_right s hk
 rw [Ch _ _ _ (by simp [hl,hv]; exact hks)]
 congr 1
 rw [Cw hk,Cw (f:=λj=>if j=k then v else f j) hk]
 congr 1
 ·show (AV f k++_).take (k*s)=_
  rw [List.take_append_of_le_length (by rw [hl]; exact Nat.le_refl _),List.take_of_length_le (by rw [hl]; exact Nat.le_refl _)]
  exact Be λj hj=>by rw [if_neg (by omega)]
 ·simp only [if_true]
  congr 1
  show (AV f k++(f k++_)).drop (k*s+v.length)=_
  rw [← List.append_assoc,List.drop_append_of_le_length (by rw [List.length_append,hl,h,hv]; exact Nat.le_refl _),List.drop_eq_nil_of_le (by rw [List.length_append,hl,h,hv]; exact Nat.le_refl _),List.nil_append]
  exact Be λj hj=>by rw [if_neg (by omega)]
theorem Jt (h:∀ k,(f k).length=s) (n:Nat) (hf:∀ k, ∀ u∈f k,u.oneCell'=true):(AV f n).toArray.all (·.oneCell')=true:=by
 rw [List.all_toArray,List.all_eq_true]
 intro u hu
 unfold AV at hu
 obtain ⟨k,_,hk⟩:=List.mem_flatMap.1 hu
 exact hf k u hk
theorem Mn {f:Nat→Value} {n k:Nat} (hk:k<n) (v:Value):(AV (λj=>[f j]) n).toArray.setIfInBounds k v=(AV (λj=>[if j=k then v else f j]) n).toArray:=by
 have h:=Gm (s:=1) (f:=λj=>[f j]) (v:=[v]) (λ_=>rfl) rfl hk (Nat.mul_one k).symm
 simp only [setAll] at h
 rw [h]
 congr 1
 exact Be λj _=>by by_cases e:j=k <;> simp [e]
theorem Mr {f:Nat→Value} {n k:Nat} (hk:k<n):(AV (λj=>[f j]) n).toArray[k]? = some (f k):=by
 have h:=Eo (s:=1) (f:=λj=>[f j]) (λ_=>rfl) hk (Nat.mul_one k).symm
 rw [List.getElem?_toArray]
 have h2:=congrArg (·[0]?) h
 simpa [List.getElem?_take,List.getElem?_drop] using h2
theorem K6 {f:Nat→Value} {n:Nat}:(AV (λj=>[f j]) n).toArray.size=n:=by
 have:=As (s:=1) (f:=λj=>[f j]) (λ_=>rfl) n
 simpa using this
theorem K7 (c:List Value) (hc:c.length=s) (hs:0<s) (n:Nat) (z:Array Value) (hz:z.toList=c):(AV (λ_=>c) n).toArray=madeCells z (n*s):=by
 have hzs:z.size=s:=by rw [← Array.length_toList,hz,hc]
 apply Array.ext'
 unfold madeCells
 apply List.ext_getElem?
 intro i
 rw [Array.toList_map,Array.toList_range,List.getElem?_map]
 by_cases hi:i<n*s
 ·have hk:i / s<n:=Nat.div_lt_of_lt_mul (by rw [Nat.mul_comm]; exact hi)
  have h:=Pu (s:=s) (f:=λ_=>c) (λ_=>hc) (n:=n) (k:=i / s) (o:=i) (e:=i%s) (m:=1) hk (by rw [Nat.mul_comm]; exact (Nat.div_add_mod i s).symm) (Nat.mod_lt _ hs)
  have h2:=congrArg (·[0]?) h
  simp only [List.getElem?_take,List.getElem?_drop,Nat.zero_lt_one,if_true,Nat.add_zero] at h2
  rw [h2,List.getElem?_range hi]
  have hm:i%s<s:=Nat.mod_lt _ hs
  simp only [Option.map_some,hzs]
  rw [← hz]
  simp [hzs,hm]
 ·rw [List.getElem?_eq_none (by rw [As (s:=s) (λ_=>hc)]; omega),List.getElem?_eq_none (by simp; omega)]
  rfl
end
def upto (k:Nat) (A:Nat→List Value) (z:List Value) (j:Nat):List Value:=if j<k then A j else z
section
variable {s n k:Nat} {A:Nat→List Value} {z:List Value}
theorem Av (hA:∀ j,(A j).length=s) (hz:z.length=s) (k:Nat):∀ j,(upto k A z j).length=s:=λj=>by
 unfold upto
 split
 ·exact hA j
 ·exact hz
theorem LW {j:Nat} (h:j<k):upto k A z j=A j:=if_pos h
theorem JG (hA:∀ j, ∀ u∈A j,u.oneCell'=true) (hz:∀ u∈z,u.oneCell'=true) (k:Nat):∀ j, ∀ u∈upto k A z j,u.oneCell'=true:=λj u hu=>by
 unfold upto at hu
 split at hu
 ·exact hA j u hu
 ·exact hz u hu
theorem Hc:(AV (λ_=>z) n).toArray=(AV (upto 0 A z) n).toArray:=congrArg List.toArray (Be λj _=>by unfold upto; rw [if_neg (by omega)])
theorem upto_all:(AV (upto n A z) n).toArray=(AV A n).toArray:=congrArg List.toArray (Be λj hj=>LW hj)
theorem GC (hA:∀ j,(A j).length=s) (hz:z.length=s) {v:List Value} (hv:A k=v) (hk:k<n) {o:Nat} (ho:o=k*s):setAll (AV (upto k A z) n).toArray o v=(AV (upto (k+1) A z) n).toArray:=by
 rw [Gm (Av hA hz k) (by rw [← hv]; exact hA k) hk ho]
 refine congrArg List.toArray (Be λj _=>?_)
 unfold upto
 by_cases e:j=k
 ·subst e
  rw [if_pos rfl,if_pos (by omega),hv]
 ·rw [if_neg e]
  by_cases h:j<k
  ·rw [if_pos h,if_pos (by omega)]
  ·rw [if_neg h,if_neg (by omega)]
theorem Hd (hA:∀ j,(A j).length=1) {u v:Value} (hv:A k=[v]) (hk:k<n):(AV (upto k A [u]) n).toArray.setIfInBounds k v=(AV (upto (k+1) A [u]) n).toArray:=by
 have h:=GC (s:=1) (z:=[u]) hA rfl hv hk (Nat.mul_one k).symm
 simpa only [setAll] using h
theorem Mp {f:Nat→List Value} (h:∀ j,(f j).length=s) (hk:k<n) {o:Nat} (ho:o=k*s):Value.agg (((AV f n).toArray.toList.drop o).take s).toArray=.agg (f k).toArray:=by
 rw [show (AV f n).toArray.toList=AV f n from rfl,Eo h hk ho]
theorem Gn {f:Nat→List Value} (h:∀ j,(f j).length=s) (hk:k<n) {o:Nat} (ho:o=k*s):o+s≤(AV f n).toArray.size:=by
 have hks:k*s+s≤n*s:=by rw [← Nat.succ_mul]; exact Nat.mul_le_mul_right s hk
 rw [List.size_toArray,As h]
 omega
end
section
variable {s n m:Nat} {f:Nat→List Value}
theorem Gl (h:∀ j,(f j).length=s) (hm:n*s=m):Value.agg (((AV f n).toArray.toList.drop 0).take m).toArray=.agg (AV f n).toArray:=by
 rw [show (AV f n).toArray.toList=AV f n from rfl,List.drop_zero,List.take_of_length_le (by rw [As h,hm]; exact Nat.le_refl _)]
theorem Gk (h:∀ j,(f j).length=s) (hm:n*s=m):0+m≤(AV f n).toArray.size:=by
 rw [List.size_toArray,As h]; omega
theorem EC (h:∀ j,(f j).length=s) {x:Option Nat} (hx:x=some (n*s)):x=some (AV f n).toArray.size:=by
 rw [hx,List.size_toArray,As h]
theorem H7 (h:∀ j,(f j).length=s) (hm:n*s=m) {cs:Array Value} (hc:cs.size=m):0+(AV f n).toArray.size≤cs.size:=by
 rw [List.size_toArray,As h]; omega
theorem Js (h:∀ j,(f j).length=s) {cs:Array Value} (hc:cs.size=n*s):setAll cs 0 (AV f n).toArray.toList=(AV f n).toArray:=by
 have hl:(AV f n).toArray.toList.length=cs.size:=by
  rw [hc]
  exact As h n
 rw [Ch _ _ _ (by omega),List.take_zero,List.drop_eq_nil_of_le (by rw [Array.length_toList]; omega)]
 simp
theorem Ju (h:∀ j,(f j).length=1) {k o:Nat} (hk:k<n) (ho:o=k*1):o<(AV f n).toArray.size:=by
 rw [List.size_toArray,As h]; omega
end
section
variable {P:Program} {w0:Base} {n:Nat} {Q:Exit→Act→World→Prop} {F:AU} {L:AE} {ops:Array Oper} {o:Oper} {l:List Oper}
theorem Bz {w:World} {g:Nat} {t:TypeId} {cs:Array Value} (h:Blk w g t cs) {o:Nat} {vs:List Value} (e:(cs.toList.drop o).take vs.length=vs):w.rangeAt g o vs:=λj v hj=>by
 rw [h.cell]
 rw [← e] at hj
 have hlt:j<vs.length:=by
  have h:=(List.getElem?_eq_some_iff.1 hj).1
  rw [List.length_take] at h
  exact Nat.lt_of_lt_of_le h (Nat.min_le_left _ _)
 rw [List.getElem?_take_of_lt hlt,List.getElem?_drop] at hj
 simpa using hj
theorem GQ {w:World} {g o:Nat} {a b:List Value} (h:w.rangeAt g o (a++b)):w.rangeAt g o a:=λj v hj=>h j v (by rw [List.getElem?_append_left (List.getElem?_eq_some_iff.1 hj).1]; exact hj)
theorem FV {w:World} {g o n:Nat} {a b:List Value} (h:w.rangeAt g o (a++b)) (hn:a.length=n):w.rangeAt g (o+n) b:=λj v hj=>by
 rw [Nat.add_assoc]
 refine h (n+j) v ?_
 rw [List.getElem?_append_right (by omega),show n+j - a.length=j by omega]
 exact hj
theorem GR {w:World} {g o n s k:Nat} {f:Nat→List Value} (h:w.rangeAt g o (AV f n)) (hs:∀ j,(f j).length=s) (hk:k<n):w.rangeAt g (o+k*s) (f k):=λj v hj=>by
 rw [Nat.add_assoc]
 refine h (k*s+j) v ?_
 have e:=Eo hs hk rfl
 rw [← e] at hj
 have hlt:j<s:=by
  have h:=(List.getElem?_eq_some_iff.1 hj).1
  rw [List.length_take] at h
  exact Nat.lt_of_lt_of_le h (Nat.min_le_left _ _)
 rw [List.getElem?_take_of_lt hlt,List.getElem?_drop] at hj
 exact hj
theorem AC (op:BinOp) (t:TypeId) (x y:Operand) {yt:TypeId} (k:IntKind) {k':IntKind} (a b:Int) (v:Value) (ho:o.op=.binOp op t x y yt) (hx:evF F x=.int k a) (hy:evF F y=.int k' b) (h:∀ w,(binOp op t (.int k a) (.int k' b)).run P w=.ok v w) (w:World) :
  (execOp (evF F) o).run P w=.ok (.value v) w:=by
 have h1:(eqGuard op t x y (.int k a) (.int k' b)).run P w=.ok () w:=by
  unfold eqGuard
  cases op <;> rfl
 unfold execOp
 simp only [ho,hx,hy,Sem.run_bind,h1,h w,Result.andThen_ok,Sem.run_pure]
theorem AH {z:Int} (h0 : -9223372036854775808≤z) (h1:z<9223372036854775808):IntKind.i64.wrap z=z:=by
 unfold IntKind.wrap; simp [IntKind.bits,IntKind.signed]; omega
theorem wrap_u64 {z:Int} (h0:0≤z) (h1:z<18446744073709551616):IntKind.u64.wrap z=z:=by
 unfold IntKind.wrap; simp [IntKind.bits,IntKind.signed]; omega
theorem Om {z:Int} (h0:0≤z) (h1:z<256):IntKind.u8.wrap z=z:=by
 unfold IntKind.wrap; simp [IntKind.bits,IntKind.signed]; omega
theorem AO (t:TypeId) (k:IntKind) (a b c:Int) (h:k.wrap (a+b)=c) (w:World):(binOp .add t (.int k a) (.int k b)).run P w=.ok (.int k c) w:=by simp [binOp,Op.intArith,h]
theorem D_ (t:TypeId) (k:IntKind) (a b c:Int) (h:k.wrap (a - b)=c) (w:World):(binOp .sub t (.int k a) (.int k b)).run P w=.ok (.int k c) w:=by simp [binOp,Op.intArith,h]
theorem Lv (t:TypeId) (k:IntKind) (a b c:Int) (h:k.wrap (a*b)=c) (w:World):(binOp .mul t (.int k a) (.int k b)).run P w=.ok (.int k c) w:=by simp [binOp,Op.intArith,h]
theorem CY (t:TypeId) (k:IntKind) (a b c:Int) (hb:b≠0) (h:k.wrap (a.tdiv b)=c) (w:World):(binOp .quo t (.int k a) (.int k b)).run P w=.ok (.int k c) w:=by simp [binOp,Op.intDiv,hb,h]
theorem Iw (t:TypeId) (k:IntKind) (a b c:Int) (h:k.wrap ((BitVec.ofInt k.bits a &&& BitVec.ofInt k.bits b).toNat:Int)=c) (w:World):(binOp .and t (.int k a) (.int k b)).run P w=.ok (.int k c) w:=by
 simp only [binOp,ne_eq,not_true_eq_false,if_false,Op.intBits,Sem.run_pure]
 rw [h]
theorem Pn (t:TypeId) (k k':IntKind) (a b c:Int) (hb:¬ b<0) (h:a.fdiv (2 ^ min b.toNat k.bits)=c) (w:World):(binOp .shr t (.int k a) (.int k' b)).run P w=.ok (.int k c) w:=by
 simp only [binOp,Op.shift,if_neg hb,Sem.run_pure,h]
theorem AY (t:TypeId) (k:IntKind) (a b:Int) (c:Bool) (h:decide (a<b)=c) (w:World):(binOp .lss t (.int k a) (.int k b)).run P w=.ok (.bool c) w:=by simp [binOp,Op.intCmp, ← h]
theorem Po (t:TypeId) (k:IntKind) (a b:Int) (c:Bool) (h:decide (a≤b)=c) (w:World):(binOp .leq t (.int k a) (.int k b)).run P w=.ok (.bool c) w:=by simp [binOp,Op.intCmp, ← h]
theorem CL (t:TypeId) (k:IntKind) (a b:Int) (c:Bool) (h:decide (a>b)=c) (w:World):(binOp .gtr t (.int k a) (.int k b)).run P w=.ok (.bool c) w:=by simp [binOp,Op.intCmp, ← h]
theorem D' (t:TypeId) (k:IntKind) (a b:Int) (c:Bool) (h:decide (a ≥ b)=c) (w:World):(binOp .geq t (.int k a) (.int k b)).run P w=.ok (.bool c) w:=by simp [binOp,Op.intCmp, ← h]
theorem Lw (t:TypeId) (k:IntKind) (a b:Int) (c:Bool) (h:decide (a=b)=c) (w:World):(binOp .eql t (.int k a) (.int k b)).run P w=.ok (.bool c) w:=by
 simp only [binOp,ne_eq,not_true_eq_false,if_false,Op.intCmp,Sem.run_pure, ← h]
 rfl
theorem Bl (t:TypeId) (k:IntKind) (a b:Int) (c:Bool) (h:decide (a≠b)=c) (w:World):(binOp .neq t (.int k a) (.int k b)).run P w=.ok (.bool c) w:=by
 simp only [binOp,ne_eq,not_true_eq_false,if_false,Op.intCmp,Sem.run_pure, ← h]
 by_cases e:a=b <;> simp [e]
theorem Bf (t e:TypeId) (x kx:Operand) (g f len cap k s:Nat) (ki:IntKind) (ho:o.op=.indexAddr t x kx) (hx:evF F x=.slice (some ⟨g,f,none⟩) len cap) (hkx:evF F kx=.int ki (k:Int)) (ht:P.underlying t=some (.slice e)) (hsz:∀ w,(sizeOf e).run P w=.ok s w) (hk:k<len) (w:World) :
  (execOp (evF F) o).run P w=.ok (.value (.pointer (some ⟨g,f+k*s,none⟩))) w:=by
 have h0:(0:Int)≤k:=by omega
 have h1:((k:Int).toNat)=k:=by omega
 unfold execOp
 simp [ho,hx,hkx,Instr.indexAt,asIntOf,run_underlying ht,hsz,h0,hk,CN,Result.andThen]
theorem Aq (t e:TypeId) (x kx:Operand) (g f m k s:Nat) (ki:IntKind) (ho:o.op=.indexAddr t x kx) (hx:evF F x=.pointer (some ⟨g,f,none⟩)) (hkx:evF F kx=.int ki (k:Int)) (ht:P.underlying t=some (.array m e)) (hsz:∀ w,(sizeOf e).run P w=.ok s w) (hk:k<m) (w:World) :
  (execOp (evF F) o).run P w=.ok (.value (.pointer (some ⟨g,f+k*s,none⟩))) w:=by
 have h0:(0:Int)≤k:=by omega
 unfold execOp
 simp [ho,hx,hkx,Instr.indexAt,asIntOf,run_underlying ht,hsz,h0,hk,CN,Result.andThen,Instr.sureAddr]
theorem OI (t:TypeId) (x lx:Operand) (g f len cap lo s:Nat) (kl:IntKind) (ho:o.op=.slice t x (some lx) none none) (hx:evF F x=.slice (some ⟨g,f,none⟩) len cap) (hl:evF F lx=.int kl (lo:Int)) (ht:P.underlying t=some (.slice (P.elem t))) (hsz:∀ w,(sizeOf (P.elem t)).run P w=.ok s w) (h1:lo≤len) (h2:lo<cap) (w:World) :
  (execOp (evF F) o).run P w=.ok (.value (.slice (some ⟨g,f+lo*s,none⟩) (len - lo) (cap - lo))) w:=by
 have hne:¬ cap=lo:=by omega
 have e:(Instr.sliceAt t (.slice (some ⟨g,f,none⟩) len cap) (some (.int kl (lo:Int))) none none).run P w=.ok (.slice (some ⟨g,f+lo*s,none⟩) (len - lo) (cap - lo)) w:=by
  rw [run_sliceAt_slice w t _ _ _ _ ht,run_slice_l w t (some ⟨g,f,none⟩) len cap ht kl lo (by omega) (by omega)]
  simp [hsz,sliced,hne,CN,Result.andThen]
 unfold execOp
 simp only [ho,hx,hl,Option.map_some,Option.map_none,e,Sem.run_bind,Sem.run_pure,Result.andThen_ok]
theorem OH (t:TypeId) (x lx hx' mx':Operand) (g f len cap lo hi mx s:Nat) (kl kh km:IntKind) (ho:o.op=.slice t x (some lx) (some hx') (some mx')) (hx:evF F x=.slice (some ⟨g,f,none⟩) len cap) (hl:evF F lx=.int kl (lo:Int)) (hh:evF F hx'=.int kh (hi:Int)) (hm:evF F mx'=.int km (mx:Int)) (ht:P.underlying t=some (.slice (P.elem t))) (hsz:∀ w,(sizeOf (P.elem t)).run P w=.ok s w)
  (h1:lo≤hi) (h2:hi≤mx) (h3:mx≤cap) (h4:lo<mx) (w:World):(execOp (evF F) o).run P w=.ok (.value (.slice (some ⟨g,f+lo*s,none⟩) (hi - lo) (mx - lo))) w:=by
 have hne:¬ mx=lo:=by omega
 have e:(Instr.sliceAt t (.slice (some ⟨g,f,none⟩) len cap) (some (.int kl (lo:Int))) (some (.int kh (hi:Int))) (some (.int km (mx:Int)))).run P w=.ok (.slice (some ⟨g,f+lo*s,none⟩) (hi - lo) (mx - lo)) w:=by
  rw [run_sliceAt_slice w t _ _ _ _ ht,run_slice_lhm w t (some ⟨g,f,none⟩) len cap ht kl kh km lo hi mx (by omega) (by omega) (by omega) (by omega)]
  simp [hsz,sliced,hne,CN,Result.andThen]
 unfold execOp
 simp only [ho,hx,hl,hh,hm,Option.map_some,e,Sem.run_bind,Sem.run_pure,Result.andThen_ok]
theorem J0 (x y:Operand) {ts:Array TypeId} (k:IntKind) (a b c:Nat) (ho:o.op=.call { callee:=.builtin .min,args:=#[x,y],argTypes:=ts }) (hx:evF F x=.int k (a:Int)) (hy:evF F y=.int k (b:Int)) (h:min a b=c) (w:World):(execOp (evF F) o).run P w=.ok (.value (.int k (c:Int))) w:=by
 have e:(if (b:Int)<(a:Int) then (b:Int) else (a:Int))=(c:Int):=by split <;> omega
 unfold execOp
 simp [ho,hx,hy,resolve,invoke,builtin,Builtin.min_,Builtin.min2,Sem.run_bind,Result.andThen]
 omega
theorem Gs (t e:TypeId) (x kx:Operand) (cs:Array Value) (m k:Nat) (ki:IntKind) (d:TypeDesc) (c:Value) (ho:o.op=.index t x kx) (hx:evF F x=.agg cs) (hkx:evF F kx=.int ki (k:Int)) (ht:P.underlying t=some (.array m e)) (he:P.underlying e=some d) (hd:d.isRow=false) (hsz:∀ w,(sizeOf e).run P w=.ok 1 w) (hk:k<m) (hc:cs[k]? = some c) (w:World) :
  (execOp (evF F) o).run P w=.ok (.value c) w:=by
 have h0:(0:Int)≤k:=by omega
 have ha:(isAgg e).run P w=.ok false w:=by
  cases d <;> first | (cases hd; done) | simp [isAgg,underlying,he]
 have pc:(part e cs ((k:Int).toNat*1)).run P w=.ok c w:=by
  simp [part,ha,hc,Result.andThen]
 unfold execOp
 simp only [ho,hx,hkx,Instr.index,asIntOf,Sem.run_bind,Sem.run_pure,Result.andThen_ok,run_underlying ht]
 rw [if_pos ⟨by omega,by omega⟩]
 simp only [Sem.run_bind,hsz,Result.andThen_ok,pc,Sem.run_pure]
def MF {T:Type} (w0:Base) (n N:Nat) (FF:Nat→T→AU) (LL:Nat→T→AE) (H:Nat→T→Prop) (k:Nat):Act→World→Prop:=λa w=>k<N∧∃ y,H (k+1) y∧Fr w0.ds a n (FF (k+1) y)∧St w0 w (LL (k+1) y)
theorem loopX {T:Type} {c:Code} (N:Nat) (FF:Nat→T→AU) (LL:Nat→T→AE) (H:Nat→T→Prop) (x0:T) (m:List Bool) (h0:H 0 x0) (hF:∀ p∈FF 0 x0,F.lookup p.1=some p.2) (hL:sel L m=LL 0 x0)
  (hr:∀ k x,k≤N→H k x→wpC P w0 n (Exit.then (MF w0 n N FF LL H k) Q) (FF k x) (LL k x) c):wpC P w0 n Q F L (.loop c) :=
 Jk N (λk a w=>∃ x,H k x∧Fr w0.ds a n (FF k x)∧St w0 w (LL k x)) (λ_ _ ha hw=>⟨x0,h0,ha.all hF,hL ▸ hw.less (B2 L m)⟩)
  λk hk a w ⟨x,hx,ha,hw⟩=>hr k x hk hx a w ha hw
theorem againX {T:Type} {N:Nat} {FF:Nat→T→AU} {LL:Nat→T→AE} {H:Nat→T→Prop} {k:Nat} {R:Exit→Act→World→Prop} (y:T) (m:List Bool) (hk:k<N) (hy:H (k+1) y) (hF:∀ p∈FF (k+1) y,F.lookup p.1=some p.2) (hL:sel L m=LL (k+1) y) :
  X w0 n (Exit.then (MF w0 n N FF LL H k) R) F L .normal:=λ_ _ ha hw=>⟨hk,y,hy,ha.all hF,hL ▸ hw.less (B2 L m)⟩
def QX (w0:Base) (n N:Nat) (FF:Nat→AU) (LL:Nat→AE) (k:Nat):Act→World→Prop:=λa w=>k<N∧Fr w0.ds a n (FF (k+1))∧St w0 w (LL (k+1))
theorem loopK {c:Code} (N:Nat) (FF:Nat→AU) (LL:Nat→AE) (m:List Bool) {M:AE} (hF:∀ p∈FF 0,F.lookup p.1=some p.2) (hL:sel L m=M) (hM:M=LL 0)
  (hr:∀ k,k≤N→wpC P w0 n (Exit.then (QX w0 n N FF LL k) Q) (FF k) (LL k) c):wpC P w0 n Q F L (.loop c) :=
 Jk N (λk a w=>Fr w0.ds a n (FF k)∧St w0 w (LL k)) (λ_ _ ha hw=>⟨ha.all hF,hM ▸ hL ▸ hw.less (B2 L m)⟩)
  λk hk a w ⟨ha,hw⟩=>hr k hk a w ha hw
theorem againK {N:Nat} {FF:Nat→AU} {LL:Nat→AE} {k:Nat} {R:Exit→Act→World→Prop} (m:List Bool) {M:AE} (hk:k<N) (hF:∀ p∈FF (k+1),F.lookup p.1=some p.2) (hL:sel L m=M) (hM:M=LL (k+1)) :
  X w0 n (Exit.then (QX w0 n N FF LL k) R) F L .normal:=λ_ _ ha hw=>⟨hk,ha.all hF,hM ▸ hL ▸ hw.less (B2 L m)⟩
theorem AM {x y:Nat×TypeId×Array Value} {l m:AE} (h:x=y) (k:l=m):x::l=y::m:=by rw [h,k]
theorem beq {g:Nat} {t:TypeId} {a b:Array Value} (h:a=b):(g,t,a)=(g,t,b):=by rw [h]
def QY (w0:Base) (n N:Nat) (H:Nat→Prop) (FF:Nat→AU) (LL:Nat→AE) (k:Nat):Act→World→Prop:=λa w=>k<N∧H (k+1)∧Fr w0.ds a n (FF (k+1))∧St w0 w (LL (k+1))
theorem loopH {c:Code} (N:Nat) (H:Nat→Prop) (FF:Nat→AU) (LL:Nat→AE) (m:List Bool) {M:AE} (h0:H 0) (hF:∀ p∈FF 0,F.lookup p.1=some p.2) (hL:sel L m=M) (hM:M=LL 0)
  (hr:∀ k,k≤N→H k→wpC P w0 n (Exit.then (QY w0 n N H FF LL k) Q) (FF k) (LL k) c):wpC P w0 n Q F L (.loop c) :=
 Jk N (λk a w=>H k∧Fr w0.ds a n (FF k)∧St w0 w (LL k)) (λ_ _ ha hw=>⟨h0,ha.all hF,hM ▸ hL ▸ hw.less (B2 L m)⟩)
  λk hk a w ⟨hh,ha,hw⟩=>hr k hk hh a w ha hw
theorem againH {N:Nat} {H:Nat→Prop} {FF:Nat→AU} {LL:Nat→AE} {k:Nat} {R:Exit→Act→World→Prop} (m:List Bool) {M:AE} (hk:k<N) (hh:H (k+1)) (hF:∀ p∈FF (k+1),F.lookup p.1=some p.2) (hL:sel L m=M) (hM:M=LL (k+1)) :
  X w0 n (Exit.then (QY w0 n N H FF LL k) R) F L .normal:=λ_ _ ha hw=>⟨hk,hh,ha.all hF,hM ▸ hL ▸ hw.less (B2 L m)⟩
theorem Makes.slice (t e:TypeId) (i:TypeInfo) (z:Value) (s b:Nat) (x y:Operand) (kl kc:IntKind) (m:Nat) (c:List Value) (ho:o.op=.makeSlice t x y) (hx:evF F x=.int kl (m:Int)) (hy:evF F y=.int kc (m:Int)) (ht:P.underlying t=some (.slice e)) (hi:P.info? e=some i) (hz:i.zero=some z) (hs:i.size=s) (hs0:0<s) (hb:i.bytes=b)
  (hc:z.cells.toList=c) (hcl:c.length=s) (hbytes:b*m≤281474976710656) (h63:m≤9223372036854775807):Makes P F o e (AV (λ_=>c) m).toArray (λg=>.slice (some ⟨g,0,none⟩) m m):=λw=>by
 subst hs hb
 have hb:(i.bytes:Int)*(m:Int)≤281474976710656:=by
  have h:((i.bytes*m:Nat):Int)≤281474976710656:=by omega
  rwa [Int.natCast_mul] at h
 have hr:=run_make (P:=P) w t e i z ht hi hz kl kc m m (by omega) (Int.le_refl _) hb (by omega)
 simp only [Int.toNat_natCast] at hr
 unfold execOp
 simp only [ho,hx,hy,Sem.run_bind,Sem.run_pure,hr,Result.andThen_ok]
 rw [K7 c hcl hs0 m z.cells hc]
end
end Sy
end
section
namespace Fz
open Go.RowKit Go.Lib Sy
def vR (R:Nat→Nat):Nat→Nat
 | 0=>0
 | n+1=>vR R n+R n*18446744073709551616 ^ n
def upd (R:Nat→Nat) (k y:Nat):Nat→Nat:=λt=>if t=k then y else R t
theorem II {R:Nat→Nat} {k y t:Nat} (h:t≠k):upd R k y t=R t:=if_neg h
theorem E1 {R:Nat→Nat} {k y:Nat} (h:∀ t,R t<18446744073709551616) (hy:y<18446744073709551616) (t:Nat):upd R k y t<18446744073709551616:=by
 unfold upd
 split
 ·exact hy
 ·exact h t
theorem Fm {R S:Nat→Nat}:∀ n,(∀ t,t<n→R t=S t)→vR R n=vR S n
 | 0,_=>rfl
 | n+1,h=>by
  show vR R n+_=vR S n+_
  rw [Fm n λt ht=>h t (by omega),h n (by omega)]
theorem E0 (R:Nat→Nat) (k y:Nat):∀ n,k<n→vR (upd R k y) n+R k*18446744073709551616 ^ k=vR R n+y*18446744073709551616 ^ k
 | 0,h=>absurd h (Nat.not_lt_zero _)
 | n+1,h=>by
  show vR (upd R k y) n+upd R k y n*_+_=vR R n+R n*_+_
  by_cases e:k=n
  ·subst e
   rw [show upd R k y k=y from if_pos rfl,Fm (R:=upd R k y) (S:=R) k λt ht=>if_neg (by omega)]
   omega
  ·have h2:=E0 R k y n (by omega)
   rw [show upd R k y n=R n from if_neg (by omega)]
   omega
theorem GB {R:Nat→Nat} (h:∀ t,R t<18446744073709551616):∀ n,vR R n<18446744073709551616 ^ n
 | 0=>Nat.one_pos
 | n+1=>by
  have h1:=GB h n
  have h2:=h n
  show vR R n+R n*_<_
  rw [Nat.pow_succ]
  have h3:(R n+1)*18446744073709551616 ^ n≤18446744073709551616*18446744073709551616 ^ n:=Nat.mul_le_mul_right _ h2
  rw [Nat.add_mul,Nat.one_mul] at h3
  rw [Nat.mul_comm (18446744073709551616 ^ n)]
  omega
theorem Dl (R:Nat→Nat) (a:Nat):∀ n,vR R (a+n)=vR R a+vR (λt=>R (a+t)) n*18446744073709551616 ^ a
 | 0=>by
  show vR R a=vR R a+0*_
  rw [Nat.zero_mul,Nat.add_zero]
 | n+1=>by
  show vR R (a+n)+R (a+n)*18446744073709551616 ^ (a+n)=vR R a+(vR _ n+R (a+n)*_)*_
  rw [Dl R a n,Nat.add_mul,Nat.mul_assoc, ← Nat.pow_add,Nat.add_comm n a,Nat.add_assoc]
theorem Fl:∀ n,vR (λ_=>0) n=0
 | 0=>rfl
 | n+1=>by
  show vR _ n+0*_=0
  rw [Fl n,Nat.zero_mul]
def cpy (R:Nat→Nat) (k:Nat):Nat→Nat:=λt=>if t<k then R t else 0
theorem RK {R:Nat→Nat} (h:∀ t,R t<18446744073709551616) (k t:Nat):cpy R k t<18446744073709551616:=by
 unfold cpy
 split
 ·exact h t
 ·decide
theorem OX (R:Nat→Nat) (k:Nat):upd (cpy R k) k (R k)=cpy R (k+1):=by
 funext t
 unfold upd cpy
 by_cases e:t=k
 ·rw [if_pos e,if_pos (by omega),e]
 ·rw [if_neg e]
  by_cases l:t<k
  ·rw [if_pos l,if_pos (by omega)]
  ·rw [if_neg l,if_neg (by omega)]
theorem Qb (R:Nat→Nat):vR (cpy R 4) 8=vR R 4:=by
 rw [show (8:Nat)=4+4 from rfl,Dl,Fm (R:=cpy R 4) (S:=R) 4 (λt ht=>if_pos ht),Fm (R:=λt=>cpy R 4 (4+t)) (S:=λ_=>0) 4 (λt _=>if_neg (by omega)),Fl,Nat.zero_mul,Nat.add_zero]
def rw8 (R:Nat→Nat):Array Value:=#[.int .u64 ((R 0:Nat):Int),.int .u64 ((R 1:Nat):Int),.int .u64 ((R 2:Nat):Int),.int .u64 ((R 3:Nat):Int),.int .u64 ((R 4:Nat):Int),.int .u64 ((R 5:Nat):Int),.int .u64 ((R 6:Nat):Int),.int .u64 ((R 7:Nat):Int)]
theorem QT {k:Nat} (h:k<8):k=0∨k=1∨k=2∨k=3∨k=4∨k=5∨k=6∨k=7:=by omega
theorem E5 (R:Nat→Nat) {k o:Nat} (h:k<8) (ho:o=k):(rw8 R)[o]? = some (.int .u64 ((R k:Nat):Int)):=by
 subst ho
 rcases QT h with rfl | rfl | rfl | rfl | rfl | rfl | rfl | rfl <;> rfl
theorem DU (R:Nat→Nat) (y:Nat) {k o:Nat} (h:k<8) (ho:o=k):(rw8 R).setIfInBounds o (.int .u64 ((y:Nat):Int))=rw8 (upd R k y):=by
 subst ho
 rcases QT h with rfl | rfl | rfl | rfl | rfl | rfl | rfl | rfl <;> rfl
theorem DV (R:Nat→Nat) {k o:Nat} (h:k<8) (ho:o=k):o<(rw8 R).size:=by
 subst ho
 exact h
def modc (M:Nat) (lw:Nat→Nat):Array Value:=((fcs M).toList++([.int .u64 ((lw 0:Nat):Int),.int .u64 ((lw 1:Nat):Int),.int .u64 ((lw 2:Nat):Int)]:List Value)).toArray
theorem Pe (M:Nat) (lw:Nat→Nat) {j o:Nat} (h:j<3) (ho:o=4+j):(modc M lw)[o]? = some (.int .u64 ((lw j:Nat):Int)):=by
 subst ho
 have:j=0∨j=1∨j=2:=by omega
 rcases this with rfl | rfl | rfl <;> rfl
def wd (x:Nat) (t:Nat):Nat:=x / 18446744073709551616 ^ t%18446744073709551616
theorem wd_lt (x t:Nat):wd x t<18446744073709551616:=Nat.mod_lt _ (by decide)
theorem NB (x:Nat):∀ n,vR (wd x) n=x%18446744073709551616 ^ n
 | 0=>by rw [Nat.pow_zero,Nat.mod_one]; rfl
 | n+1=>by
  show vR (wd x) n+wd x n*_=_
  rw [NB x n,Nat.mod_pow_succ,Nat.mul_comm]
  rfl
theorem Gq (x:Nat) {k o:Nat} (h:k<4) (ho:o=k):(fcs x)[o]? = some (.int .u64 ((wd x k:Nat):Int)):=by
 subst ho
 have:o=0∨o=1∨o=2∨o=3:=by omega
 have e0:wd x 0=x%18446744073709551616:=by unfold wd; rw [Nat.pow_zero,Nat.div_one]
 have e1:wd x 1=x / 18446744073709551616%18446744073709551616:=by unfold wd; rw [Nat.pow_one]
 rcases this with rfl | rfl | rfl | rfl
 ·rw [e0]; rfl
 ·rw [e1]; rfl
 ·rfl
 ·rfl
theorem KY {R:Nat→Nat} (h:∀ t,R t<18446744073709551616):Value.agg #[.int .u64 ((R 0:Nat):Int),.int .u64 ((R 1:Nat):Int),.int .u64 ((R 2:Nat):Int),.int .u64 ((R 3:Nat):Int)]=fv (vR R 4):=by
 rw [Cc _ _ _ _ (h 0) (h 1) (h 2) (h 3)]
 congr 1
 show _=0+R 0*1+R 1*18446744073709551616+R 2*340282366920938463463374607431768211456+R 3*6277101735386680763835789423207666416102355444464034512896
 omega
theorem QK {hi lo x k y l e d r c:Nat} (h1:lo+18446744073709551616*hi=e*d) (h2:x+18446744073709551616*k=lo+r) (h3:y+18446744073709551616*l=x+c):y+18446744073709551616*(hi+k+l)=e*d+r+c:=by omega
theorem Oa {hi k l y e d r c:Nat} (h:y+18446744073709551616*(hi+k+l)=e*d+r+c) (he:e<18446744073709551616) (hd:d<18446744073709551616) (hr:r<18446744073709551616) (hc:c<18446744073709551616):hi+k+l<18446744073709551616:=by
 have h2:e*d≤18446744073709551615*18446744073709551615:=Nat.mul_le_mul (by omega) (by omega)
 omega
theorem K3 {v v' r P c c' y e d V LS Bi P0:Nat} (h1:v'+r*P=v+y*P) (h2:v+c*P=V+e*LS*Bi) (h3:y+18446744073709551616*c'=e*d+r+c) (hp:P=P0*Bi):v'+c'*(P*18446744073709551616)=V+e*(LS+d*P0)*Bi:=by
 grind
theorem RO {v v' r P c l x V:Nat} (h1:v'+r*P=v+x*P) (h2:v+c*P=V) (h3:x+18446744073709551616*l=r+c):v'+l*(P*18446744073709551616)=V:=by
 grind
theorem Ki (a b:Nat) (ha:a<18446744073709551616) (hb:b<18446744073709551616):IntKind.u64.wrap ((BitVec.ofInt IntKind.u64.bits (a:Int) ||| BitVec.ofInt IntKind.u64.bits (b:Int)).toNat:Int)=((a ||| b:Nat):Int):=by
 have hl:a ||| b<18446744073709551616:=Nat.or_lt_two_pow (n:=64) ha hb
 have hw2:(BitVec.ofInt 64 (a:Int) ||| BitVec.ofInt 64 (b:Int)).toNat=a ||| b:=by
  rw [BitVec.toNat_or]
  simp only [BitVec.ofInt_natCast,BitVec.toNat_ofNat]
  rw [Nat.mod_eq_of_lt (by omega),Nat.mod_eq_of_lt (by omega)]
 show IntKind.u64.wrap ((BitVec.ofInt 64 (a:Int) ||| BitVec.ofInt 64 (b:Int)).toNat:Int)=_
 rw [hw2,wrap_u64 (by omega) (by omega)]
theorem K1 {P:Program} (t:TypeId) (k:IntKind) (a b c:Int) (h:k.wrap ((BitVec.ofInt k.bits a ||| BitVec.ofInt k.bits b).toNat:Int)=c) (w:World):(binOp .or t (.int k a) (.int k b)).run P w=.ok (.int k c) w:=by
 simp only [binOp,ne_eq,not_true_eq_false,if_false,Op.intBits,Sem.run_pure]
 rw [h]
theorem Jg (w:World) (x y hi lo:Nat) (hx:x<18446744073709551616) (hy:y<18446744073709551616) (hlo:lo<18446744073709551616) (he:lo+18446744073709551616*hi=x*y) :
  Calls Tryz.prog 171 #[.int .u64 ((x:Nat):Int),.int .u64 ((y:Nat):Int)] w (Gets w (.tuple #[.int .u64 ((hi:Nat):Int),.int .u64 ((lo:Nat):Int)])) :=
 (Cs w x y hi lo hx hy hlo he).mono λe w' ⟨h1,h2⟩=>⟨h1,by rw [h2]; exact Below.refl _ _⟩
theorem He (x y:Nat):∃ hi lo:Nat,lo<18446744073709551616∧lo+18446744073709551616*hi=x*y:=⟨x*y / 18446744073709551616,x*y%18446744073709551616,Nat.mod_lt _ (by decide),Nat.mod_add_div _ _⟩
theorem Nw {x y i c:Nat} {y1 z:Nat→Nat} (h1:vR y1 8=vR (wd x) i*vR (wd y) 4) (h2:vR z 8+c*18446744073709551616 ^ (i+4)=vR y1 8+wd x i*vR (wd y) 4*18446744073709551616 ^ i) (h3:z (i+4)=0) (hi:i<4):vR (upd z (i+4) c) 8=vR (wd x) (i+1)*vR (wd y) 4:=by
 have h4:=E0 z (i+4) c 8 (by omega)
 rw [h3,Nat.zero_mul,Nat.add_zero] at h4
 show _=(vR (wd x) i+wd x i*_)*_
 rw [h4,h2,h1]
 grind
theorem wd4 {x:Nat} (hx:x<(2^256)):vR (wd x) 4=x:=by
 rw [NB]
 exact Nat.mod_eq_of_lt hx
end Fz
end
section
namespace Fz
open Go.RowKit Go.Lib Sy
theorem PQ {y:Nat→Nat} (h:¬ (((y 4 ||| y 5) ||| y 6) ||| y 7>0)):y 4=0∧y 5=0∧y 6=0∧y 7=0:=by
 have h0:((y 4 ||| y 5) ||| y 6) ||| y 7=0:=by omega
 rw [Nat.or_eq_zero_iff,Nat.or_eq_zero_iff,Nat.or_eq_zero_iff] at h0
 exact ⟨h0.1.1.1,h0.1.1.2,h0.1.2,h0.2⟩
theorem QH (y:Nat→Nat):vR (λt=>y (4+t)) 4=0+y 4*1+y 5*18446744073709551616+y 6*340282366920938463463374607431768211456+y 7*6277101735386680763835789423207666416102355444464034512896:=rfl
theorem Oq {y:Nat→Nat} (n k:Nat) (hn:n=k+k) (e:vR (λt=>y (k+t)) k=0):vR y n=vR y k:=by
 subst hn
 have s:=Dl y k k
 rw [e,Nat.zero_mul,Nat.add_zero] at s
 exact s
theorem Qa {y:Nat→Nat} (h:y 4=0∧y 5=0∧y 6=0∧y 7=0):vR y 8=vR y 4:=Oq 8 4 rfl (by
 rw [QH]
 obtain ⟨h1,h2,h3,h4⟩:=h
 omega)
theorem Qx {M:Nat} {lw y z:Nat→Nat} (_:∀ t,lw t<18446744073709551616) (hM0:0<M) (hM:M+vR lw 3=18446744073709551616 ^ 4) (_:∀ t,y t<18446744073709551616) (h:vR z 8=vR y 4+vR (λt=>y (4+t)) 4*vR lw 3) (ho:((y 4 ||| y 5) ||| y 6) ||| y 7>0):vR z 8%M=vR y 8%M∧vR z 8<vR y 8:=by
 have e:vR y 8=vR z 8+vR (λt=>y (4+t)) 4*M:=by
  rw [show (8:Nat)=4+4 from rfl,Dl y, ← hM,show (4+4:Nat)=8 from rfl,h,Nat.mul_add]
  omega
 have hp:0<vR (λt=>y (4+t)) 4:=by
  rw [QH]
  rcases Nat.eq_zero_or_pos (y 4) with h4 | h4
  ·rcases Nat.eq_zero_or_pos (y 5) with h5 | h5
   ·rcases Nat.eq_zero_or_pos (y 6) with h6 | h6
    ·rcases Nat.eq_zero_or_pos (y 7) with h7 | h7
     ·rw [h4,h5,h6,h7] at ho
      exact absurd ho (by decide)
     ·omega
    ·omega
   ·omega
  ·omega
 have hpos:0<vR (λt=>y (4+t)) 4*M:=Nat.mul_pos hp hM0
 refine ⟨?_,by omega⟩
 rw [e,Nat.add_mul_mod_self_right]
theorem SB {lw y y3 z:Nat→Nat} {c i n:Nat} (hlw:∀ t,lw t<18446744073709551616) (hy:∀ t,y t<18446744073709551616) (h3:vR y3 8=vR y 4+vR (λt=>y (4+t)) i*vR lw 3) (hz:∀ t,z t<18446744073709551616) (h:vR z 8+c*18446744073709551616 ^ n=vR y3 8+y (4+i)*vR lw 3*18446744073709551616 ^ i) (hi:i<4) (hc:c=0∨n=8) :
  vR z 8=vR y 4+vR (λt=>y (4+t)) (i+1)*vR lw 3:=by
 have e:vR y3 8+y (4+i)*vR lw 3*18446744073709551616 ^ i=vR y 4+vR (λt=>y (4+t)) (i+1)*vR lw 3:=by
  show _=_+(vR (λt=>y (4+t)) i+y (4+i)*_)*_
  rw [h3]
  grind
 rw [e] at h
 rcases hc with rfl | rfl
 ·rw [Nat.zero_mul,Nat.add_zero] at h
  exact h
 ·have h1:=GB hy 4
  have h2:=GB (R:=λt=>y (4+t)) (λt=>hy _) (i+1)
  have h4:=GB hlw 3
  have h5:18446744073709551616 ^ (i+1)≤18446744073709551616 ^ 4:=Nat.pow_le_pow_right (by decide) (by omega)
  have h6:vR (λt=>y (4+t)) (i+1)*vR lw 3≤18446744073709551616 ^ 4*18446744073709551616 ^ 3:=Nat.mul_le_mul (by omega) (by omega)
  have h7:(18446744073709551616 ^ 4+18446744073709551616 ^ 4*18446744073709551616 ^ 3:Nat)<18446744073709551616 ^ 8:=by decide
  rcases Nat.eq_zero_or_pos c with rfl | hp
  ·rw [Nat.zero_mul,Nat.add_zero] at h
   exact h
  ·have h8:1*18446744073709551616 ^ 8≤c*18446744073709551616 ^ 8:=Nat.mul_le_mul_right _ hp
   omega
set_option maxHeartbeats 4000000 in
set_option maxRecDepth 100000 in
theorem foldZ (w:World) (M:Nat) (lw:Nat→Nat) (hlw:∀ t,lw t<18446744073709551616) (hM0:0<M) (hM:M+vR lw 3=18446744073709551616 ^ 4) (hnorm:∀ w x,x<(2^256)→Calls Tryz.prog 59 #[.agg (modc M lw),fv x] w (Gets w (fv (x%M)))) (R:Nat→Nat) (hR:∀ t,R t<18446744073709551616):Calls Tryz.prog 173 #[.agg (modc M lw),.agg (rw8 R)] w (Gets w (fv (vR R 8%M))):=by
 obtain ⟨V,hV⟩:∃ V,V=vR R 8%M:=⟨_,rfl⟩
 obtain ⟨V0,hV0⟩:∃ V,V=vR R 8:=⟨_,rfl⟩
 rw [← hV]
 refine Sy.enter (args:=[.agg (modc M lw),.agg (rw8 R)]) Tryz.func173 rfl kL ?_
 refine sC ?_
 refine sM 102 (modc M lw) (λg0=>?_)
 refine Sy.make kR 205 (rw8 R) ptr kF (λg1=>?_)
 refine sM 98 (fcs 0) (λg2=>?_)
 refine sG<|Sy.seq<|Sy.block ?_
 refine Sy.loopX (T:=Nat→Nat) V0 (λk1 y1=>[(2,.pointer (some ⟨g0,0,none⟩)),(3,.pointer (some ⟨g1,0,none⟩)),(4,.pointer (some ⟨g2,0,none⟩))]) (λk1 y1=>[(g0,102,(modc M lw)),(g1,205,(rw8 y1)),(g2,98,(fcs 0))]) (λk1 y1=>(∀ t,y1 t<18446744073709551616)∧vR y1 8%M=V∧vR y1 8+k1≤V0) R [true,true,true] (⟨hR,hV.symm,by show vR R 8+0≤V0; omega⟩) ac3 kR (λk1 y1 hk1 hh1=>?_)
 refine Sy.seq<|sC ?_
 refine sP (.pointer (some ⟨g1,4,none⟩))<|sS (.int .u64 ((y1 4:Nat):Int)) (Quiet.cell 1 g1 4 205 44 (rw8 y1) _ _ rfl kR kR Tryz.underlying44 rfl _ kR)<|sP (.pointer (some ⟨g1,5,none⟩))<|sS (.int .u64 ((y1 5:Nat):Int)) (Quiet.cell 1 g1 5 205 44 (rw8 y1) _ _ rfl kR kR Tryz.underlying44 rfl _ kR)<|sS (.int .u64 (((y1 4) ||| (y1 5):Nat):Int)) (Quiet.pure (AC .or _ _ _ .u64 _ _ _ rfl rfl rfl (K1 _ _ _ _ _ (Ki _ _ (hh1.1 _) (hh1.1 _)))))<|sP (.pointer (some ⟨g1,6,none⟩))<|sS (.int .u64 ((y1 6:Nat):Int)) (Quiet.cell 1 g1 6 205 44 (rw8 y1) _ _ rfl kR kR Tryz.underlying44 rfl _ kR)<|sS (.int .u64 ((((y1 4) ||| (y1 5)) ||| (y1 6):Nat):Int)) (Quiet.pure (AC .or _ _ _ .u64 _ _ _ rfl rfl rfl (K1 _ _ _ _ _ (Ki _ _ (Nat.or_lt_two_pow (n:=64) (hh1.1 _) (hh1.1 _)) (hh1.1 _))))) ?_
 refine sP (.pointer (some ⟨g1,7,none⟩))<|sS (.int .u64 ((y1 7:Nat):Int)) (Quiet.cell 1 g1 7 205 44 (rw8 y1) _ _ rfl kR kR Tryz.underlying44 rfl _ kR)<|sS (.int .u64 (((((y1 4) ||| (y1 5)) ||| (y1 6)) ||| (y1 7):Nat):Int)) (Quiet.pure (AC .or _ _ _ .u64 _ _ _ rfl rfl rfl (K1 _ _ _ _ _ (Ki _ _ (Nat.or_lt_two_pow (n:=64) (Nat.or_lt_two_pow (n:=64) (hh1.1 _) (hh1.1 _)) (hh1.1 _)) (hh1.1 _))))) ?_
 obtain ⟨b1,hb1⟩:∃ z:Bool,z=decide ((((y1 4) ||| (y1 5)) ||| (y1 6)) ||| (y1 7)>0):=⟨_,rfl⟩
 refine sS (.bool b1) (Quiet.pure (AC .gtr _ _ _ .u64 _ _ _ rfl rfl rfl (CL _ _ _ _ _ (by rw [hb1]; exact decide_eq_decide.2 (by omega))))) ?_
 refine sG ?_
 cases b1
 ·have lb1:¬ ((((y1 4) ||| (y1 5)) ||| (y1 6)) ||| (y1 7)>0):=of_decide_eq_false hb1.symm
  refine sU<|Sy.exit<|Sy.then_exit<|Sy.then_exit ?_
  have hz:=PQ lb1
  have hlow:=Qa hz
  refine Sy.in_exit<|sB ?_
  refine sS (.agg (modc M lw)) (qL 0 g0 0 7 102 102 (modc M lw) rfl Tryz.underlying102)<|sP (.pointer (some ⟨g1,0,none⟩))<|sS (.int .u64 ((y1 0:Nat):Int)) (Quiet.cell 1 g1 0 205 44 (rw8 y1) _ _ rfl kR kR Tryz.underlying44 rfl _ kR)<|sP (.pointer (some ⟨g1,1,none⟩))<|sS (.int .u64 ((y1 1:Nat):Int)) (Quiet.cell 1 g1 1 205 44 (rw8 y1) _ _ rfl kR kR Tryz.underlying44 rfl _ kR)<|sP (.pointer (some ⟨g1,2,none⟩))<|sS (.int .u64 ((y1 2:Nat):Int)) (Quiet.cell 1 g1 2 205 44 (rw8 y1) _ _ rfl kR kR Tryz.underlying44 rfl _ kR)<|sP (.pointer (some ⟨g1,3,none⟩)) ?_
  refine sS (.int .u64 ((y1 3:Nat):Int)) (Quiet.cell 1 g1 3 205 44 (rw8 y1) _ _ rfl kR kR Tryz.underlying44 rfl _ kR)<|sS (fv (vR y1 4)) (Quiet.pure (λw=>by rw [← KY hh1.1]; kernel_rfl))<|sS (fv ((vR y1 4)%M)) (qF 59 #[.agg (modc M lw),fv (vR y1 4)] (λw=>hnorm w _ (GB hh1.1 4)))<|sW 2 g2 98 (fcs 0) (fcs ((vR y1 4)%M)) (wS 0 98 (fcs ((vR y1 4)%M)) rfl) ?_
  refine sG<|Sy.ret ?_
  rw [show (fv V:Value)=fv ((vR y1 4)%M) from by rw [← hh1.2.1,hlow]]
  exact rC (v:=fv ((vR y1 4)%M)) 98 g2 2 (fcs ((vR y1 4)%M)) rfl Tryz.underlying98
 ·have lb1:(((y1 4) ||| (y1 5)) ||| (y1 6)) ||| (y1 7)>0:=of_decide_eq_true hb1.symm
  refine sT<|Sy.skip<|Sy.then_<|Sy.block<|sC ?_
  refine Sy.make kR 205 (rw8 (λ_=>0)) ptr kF (λg3=>?_)
  refine sG<|Sy.seq<|sC ?_
  refine sP (.int .i64 0) ?_
  refine sG<|Sy.block ?_
  refine Sy.loopK 4 (λk2=>[(2,.pointer (some ⟨g0,0,none⟩)),(3,.pointer (some ⟨g1,0,none⟩)),(4,.pointer (some ⟨g2,0,none⟩)),(5,.pointer (some ⟨g3,0,none⟩)),(6,.int .i64 ((k2:Nat):Int))]) (λk2=>[(g0,102,(modc M lw)),(g1,205,(rw8 y1)),(g2,98,(fcs 0)),(g3,205,(rw8 (cpy y1 k2)))]) [true,true,true,true] (M:=[(g0,102,(modc M lw)),(g1,205,(rw8 y1)),(g2,98,(fcs 0)),(g3,205,(rw8 (λ_=>0)))]) ac5 kR (AM rfl (AM rfl (AM rfl (AM (beq kR) rfl)))) (λk2 hk2=>?_)
  refine Sy.seq<|sC ?_
  refine sP (.int .i64 ((k2:Nat):Int)) ?_
  obtain ⟨b2,hb2⟩:∃ z:Bool,z=decide (k2<4):=⟨_,rfl⟩
  refine sS (.bool b2) (Quiet.pure (AC .lss _ _ _ .i64 _ _ _ rfl rfl rfl (AY _ _ _ _ _ (by rw [hb2]; exact decide_eq_decide.2 (by omega))))) ?_
  refine sG ?_
  cases b2
  ·have lb2:¬ (k2<4):=of_decide_eq_false hb2.symm
   refine sU<|Sy.exit<|Sy.then_exit<|Sy.then_exit ?_
   obtain rfl:k2=4:=by omega
   refine Sy.in_exit<|Sy.then_<|Sy.seq<|sC ?_
   refine sP (.int .i64 0) ?_
   refine sG<|Sy.block ?_
   refine Sy.loopX (T:=Nat→Nat) 4 (λk3 y3=>[(2,.pointer (some ⟨g0,0,none⟩)),(3,.pointer (some ⟨g1,0,none⟩)),(4,.pointer (some ⟨g2,0,none⟩)),(5,.pointer (some ⟨g3,0,none⟩)),(7,.int .i64 ((k3:Nat):Int))]) (λk3 y3=>[(g0,102,(modc M lw)),(g1,205,(rw8 y1)),(g2,98,(fcs 0)),(g3,205,(rw8 y3))]) (λk3 y3=>(∀ t,y3 t<18446744073709551616)∧vR y3 8=vR y1 4+vR (λt=>y1 (4+t)) k3*vR lw 3) (cpy y1 4) [true,true,true,true] (⟨RK hh1.1 4,(Qb y1).trans (by show _=_+0*_; rw [Nat.zero_mul,Nat.add_zero])⟩) ac5 kR (λk3 y3 hk3 hh3=>?_)
   refine Sy.seq<|sC ?_
   refine sP (.int .i64 ((k3:Nat):Int)) ?_
   obtain ⟨b3,hb3⟩:∃ z:Bool,z=decide (k3<4):=⟨_,rfl⟩
   refine sS (.bool b3) (Quiet.pure (AC .lss _ _ _ .i64 _ _ _ rfl rfl rfl (AY _ _ _ _ _ (by rw [hb3]; exact decide_eq_decide.2 (by omega))))) ?_
   refine sG ?_
   cases b3
   ·have lb3:¬ (k3<4):=of_decide_eq_false hb3.symm
    refine sU<|Sy.exit<|Sy.then_exit<|Sy.then_exit ?_
    obtain rfl:k3=4:=by omega
    refine Sy.in_exit<|Sy.then_<|Sy.region ?_
    refine sS (.agg (rw8 y3)) (Quiet.load 3 g3 0 8 205 205 (rw8 y3) _ _ rfl kR kR Tryz.underlying205 rfl kR _ kR kL) ?_
    refine Sy.write kR 1 g1 205 (rw8 y1) (rw8 y3) kR (Writes.store 0 205 (rw8 y3) _ _ rfl kR kR kR kL kR kR) ?_
    refine Sy.nil<|Sy.in_ ?_
    have hf:=Qx hlw hM0 hM hh1.1 hh3.2 lb1
    obtain ⟨hf1,hf2⟩:=hf
    exact Sy.againX (y3) [true,true,true,false] (by have:=hh1.2.2; omega) (⟨hh3.1,hf1.trans hh1.2.1,by have:=hh1.2.2; omega⟩) ac3 kR
   ·have lb3:k3<4:=of_decide_eq_true hb3.symm
    refine sT<|Sy.skip<|Sy.then_<|Sy.seq<|Sy.block<|sC ?_
    refine sP (.int .u64 0) ?_
    refine sG<|Sy.seq<|sC ?_
    refine sP (.int .i64 0) ?_
    refine sG<|Sy.block ?_
    refine Sy.loopX (T:=(Nat→Nat)×Nat) 3 (λk4 y4=>[(2,.pointer (some ⟨g0,0,none⟩)),(3,.pointer (some ⟨g1,0,none⟩)),(4,.pointer (some ⟨g2,0,none⟩)),(5,.pointer (some ⟨g3,0,none⟩)),(7,.int .i64 ((k3:Nat):Int)),(8,.int .u64 ((y4.2:Nat):Int)),(9,.int .i64 ((k4:Nat):Int))]) (λk4 y4=>[(g0,102,(modc M lw)),(g1,205,(rw8 y1)),(g2,98,(fcs 0)),(g3,205,(rw8 y4.1))]) (λk4 y4=>(∀ t,y4.1 t<18446744073709551616)∧y4.2<18446744073709551616∧vR y4.1 8+y4.2*18446744073709551616 ^ (k3+k4)=vR y3 8+y1 (4+k3)*vR lw k4*18446744073709551616 ^ k3) (y3,0) [true,true,true,true] (⟨hh3.1,by show (0:Nat)<18446744073709551616; decide,by show vR y3 8+0*_=_+_*0*_; omega⟩) ac7 kR (λk4 y4 hk4 hh4=>?_)
    refine Sy.seq<|sC ?_
    refine sP (.int .i64 ((k4:Nat):Int)) ?_
    obtain ⟨b4,hb4⟩:∃ z:Bool,z=decide (k4<3):=⟨_,rfl⟩
    refine sS (.bool b4) (Quiet.pure (AC .lss _ _ _ .i64 _ _ _ rfl rfl rfl (AY _ _ _ _ _ (by rw [hb4]; exact decide_eq_decide.2 (by omega))))) ?_
    refine sG ?_
    cases b4
    ·have lb4:¬ (k4<3):=of_decide_eq_false hb4.symm
     refine sU<|Sy.exit<|Sy.then_exit<|Sy.then_exit ?_
     obtain rfl:k4=3:=by omega
     refine Sy.in_exit<|sB ?_
     refine sP (.int .i64 ((k3:Nat):Int))<|sS (.int .i64 ((k3+3:Nat):Int)) (Quiet.pure (AC .add _ _ _ .i64 _ _ _ rfl rfl rfl (AO _ _ _ _ _ ((AH (by omega) (by omega)).trans (by omega)))))<|sP (.int .i64 ((k3+3:Nat):Int)) ?_
     refine sG<|Sy.block ?_
     refine Sy.loopX (T:=(Nat→Nat)×Nat) (5 - k3) (λk5 y5=>[(2,.pointer (some ⟨g0,0,none⟩)),(3,.pointer (some ⟨g1,0,none⟩)),(4,.pointer (some ⟨g2,0,none⟩)),(5,.pointer (some ⟨g3,0,none⟩)),(7,.int .i64 ((k3:Nat):Int)),(8,.int .u64 ((y5.2:Nat):Int)),(16,.int .i64 ((k3+3+k5:Nat):Int))]) (λk5 y5=>[(g0,102,(modc M lw)),(g1,205,(rw8 y1)),(g2,98,(fcs 0)),(g3,205,(rw8 y5.1))]) (λk5 y5=>(∀ t,y5.1 t<18446744073709551616)∧y5.2<18446744073709551616∧vR y5.1 8+y5.2*18446744073709551616 ^ (k3+3+k5)=vR y3 8+y1 (4+k3)*vR lw 3*18446744073709551616 ^ k3) y4 [true,true,true,true] (⟨hh4.1,hh4.2.1,hh4.2.2⟩) ac7 kR (λk5 y5 hk5 hh5=>?_)
     refine Sy.seq<|sC ?_
     refine sP (.int .i64 ((k3+3+k5:Nat):Int)) ?_
     obtain ⟨b5,hb5⟩:∃ z:Bool,z=decide (k3+3+k5<8):=⟨_,rfl⟩
     refine sS (.bool b5) (Quiet.pure (AC .lss _ _ _ .i64 _ _ _ rfl rfl rfl (AY _ _ _ _ _ (by rw [hb5]; exact decide_eq_decide.2 (by omega)))))<|sP (.bool b5) ?_
     cases b5
     ·have lb5:¬ (k3+3+k5<8):=of_decide_eq_false hb5.symm
      refine sN<|sN ?_
      refine sP (.bool false) ?_
      refine sG<|sU<|Sy.exit<|Sy.then_exit<|Sy.then_exit ?_
      have hfin:=SB hlw hh1.1 hh3.2 hh5.1 hh5.2.2 (by omega) (by first | (left; omega) | (right; omega))
      refine Sy.in_exit<|Sy.in_<|Sy.then_<|Sy.region ?_
      refine sP (.int .i64 ((k3:Nat):Int))<|sS (.int .i64 ((k3+1:Nat):Int)) (Quiet.pure (AC .add _ _ _ .i64 _ _ _ rfl rfl rfl (AO _ _ _ _ _ ((AH (by omega) (by omega)).trans (by omega)))))<|sP (.int .i64 ((k3+1:Nat):Int)) ?_
      refine Sy.nil ?_
      have hq:=hfin
      exact Sy.againX (y5.1) [true,true,true,true] (by omega) (⟨hh5.1,hq⟩) ac5 kR
     ·have lb5:k3+3+k5<8:=of_decide_eq_true hb5.symm
      refine sP (.int .u64 ((y5.2:Nat):Int)) ?_
      obtain ⟨b6,hb6⟩:∃ z:Bool,z=decide (y5.2>0):=⟨_,rfl⟩
      refine sS (.bool b6) (Quiet.pure (AC .gtr _ _ _ .u64 _ _ _ rfl rfl rfl (CL _ _ _ _ _ (by rw [hb6]; exact decide_eq_decide.2 (by omega)))))<|sP (.bool b6) ?_
      refine sG ?_
      cases b6
      ·have lb6:¬ (y5.2>0):=of_decide_eq_false hb6.symm
       refine sU<|Sy.exit<|Sy.then_exit<|Sy.then_exit ?_
       have hfin:=SB hlw hh1.1 hh3.2 hh5.1 hh5.2.2 (by omega) (by first | (left; omega) | (right; omega))
       refine Sy.in_exit<|Sy.in_<|Sy.then_<|Sy.region ?_
       refine sP (.int .i64 ((k3:Nat):Int))<|sS (.int .i64 ((k3+1:Nat):Int)) (Quiet.pure (AC .add _ _ _ .i64 _ _ _ rfl rfl rfl (AO _ _ _ _ _ ((AH (by omega) (by omega)).trans (by omega)))))<|sP (.int .i64 ((k3+1:Nat):Int)) ?_
       refine Sy.nil ?_
       have hq:=hfin
       exact Sy.againX (y5.1) [true,true,true,true] (by omega) (⟨hh5.1,hq⟩) ac5 kR
      ·have lb6:y5.2>0:=of_decide_eq_true hb6.symm
       refine sT<|Sy.skip<|Sy.then_<|Sy.seq<|Sy.block<|sC ?_
       refine sP (.int .i64 ((k3+3+k5:Nat):Int))<|sS (.pointer (some ⟨g3,0+(k3+3+k5)*1,none⟩)) (Quiet.pure (Aq 205 _ _ _ g3 0 _ (k3+3+k5) 1 .i64 rfl rfl rfl Tryz.underlying205 kF (by omega)))<|sS (.int .u64 ((y5.1 (k3+3+k5):Nat):Int)) (Quiet.cell 3 g3 (0+(k3+3+k5)*1) 205 44 (rw8 y5.1) _ _ rfl kR kR Tryz.underlying44 rfl _ (E5 y5.1 (k:=k3+3+k5) (by omega) (by omega)))<|sP (.int .u64 ((y5.2:Nat):Int)) ?_
       obtain ⟨x1,c1,lx1,lc1,ex1,rx1⟩:=CO (y5.1 (k3+3+k5)) (y5.2) (by first | assumption | exact hR _ | exact hlw _ | exact wd_lt _ _ | exact hh1.1 _ | exact hh3.1 _ | exact hh4.1 _ | exact hh5.1 _ | exact hh5.2.1 | exact hh4.2.1 | decide) (by first | assumption | exact hR _ | exact hlw _ | exact wd_lt _ _ | exact hh1.1 _ | exact hh3.1 _ | exact hh4.1 _ | exact hh5.1 _ | exact hh5.2.1 | exact hh4.2.1 | decide)
       refine sS (.tuple #[.int .u64 ((x1:Nat):Int),.int .u64 ((c1:Nat):Int)]) (Quiet.pure (λw=>Eq.trans kR (rx1 w)))<|sP (.tuple #[.int .u64 ((x1:Nat):Int),.int .u64 ((c1:Nat):Int)])<|sP (.int .u64 ((x1:Nat):Int))<|sP (.int .u64 ((c1:Nat):Int))<|sP (.int .u64 ((x1:Nat):Int))<|sP (.int .u64 ((c1:Nat):Int)) ?_
       refine sA ?_
       refine sP (.int .i64 ((k3+3+k5:Nat):Int))<|sP (.int .u64 ((x1:Nat):Int))<|sS (.pointer (some ⟨g3,0+(k3+3+k5)*1,none⟩)) (Quiet.pure (Aq 205 _ _ _ g3 0 _ (k3+3+k5) 1 .i64 rfl rfl rfl Tryz.underlying205 kF (by omega))) ?_
       refine Sy.write kR 3 g3 205 (rw8 y5.1) (rw8 (upd y5.1 (k3+3+k5) x1)) kR (Writes.one (0+(k3+3+k5)*1) 44 (.int .u64 ((x1:Nat):Int)) _ _ rfl kR kR kR rfl rfl (DV _ (k:=k3+3+k5) (by omega) (by omega)) (DU _ _ (by omega) (by omega))) ?_
       refine sG<|Sy.region ?_
       refine sP (.int .u64 ((c1:Nat):Int))<|sP (.int .u64 ((c1:Nat):Int)) ?_
       refine Sy.nil<|Sy.in_<|Sy.then_<|Sy.region ?_
       refine sP (.int .i64 ((k3+3+k5:Nat):Int))<|sS (.int .i64 (((k3+3+k5)+1:Nat):Int)) (Quiet.pure (AC .add _ _ _ .i64 _ _ _ rfl rfl rfl (AO _ _ _ _ _ ((AH (by omega) (by omega)).trans (by omega)))))<|sP (.int .i64 (((k3+3+k5)+1:Nat):Int)) ?_
       refine Sy.nil ?_
       have hin:=RO (E0 y5.1 (k3+3+k5) x1 8 (by omega)) hh5.2.2 ex1
       exact Sy.againX ((upd y5.1 (k3+3+k5) x1,c1)) [true,true,true,true] (by omega) (⟨E1 hh5.1 lx1,by omega,by rw [← Nat.add_assoc,Nat.pow_succ]; exact hin⟩) ac7 kR
    ·have lb4:k4<3:=of_decide_eq_true hb4.symm
     refine sT<|Sy.skip<|Sy.then_<|Sy.seq<|Sy.block<|Sy.seq ?_
     refine Sy.regionD (λj=>false) kR ?_
     refine sZ 0 rfl (.int .i64 ((k3:Nat):Int))<|sD 1 rfl (.int .i64 ((4+k3:Nat):Int)) (Quiet.pure (AC .add _ _ _ .i64 _ _ _ rfl rfl rfl (AO _ _ _ _ _ ((AH (by omega) (by omega)).trans (by omega)))))<|sD 2 rfl (.pointer (some ⟨g1,0+(4+k3)*1,none⟩)) (Quiet.pure (Aq 205 _ _ _ g1 0 _ (4+k3) 1 .i64 rfl rfl rfl Tryz.underlying205 kF (by omega)))<|sD 3 rfl (.int .u64 ((y1 (4+k3):Nat):Int)) (Quiet.cell 1 g1 (0+(4+k3)*1) 205 44 (rw8 y1) _ _ rfl kR kR Tryz.underlying44 rfl _ (E5 y1 (k:=4+k3) (by omega) (by omega)))<|sZ 4 rfl (.int .i64 ((k4:Nat):Int))<|sZ 5 rfl (.pointer (some ⟨g0,4,none⟩))<|sD 6 rfl (.pointer (some ⟨g0,4+k4*1,none⟩)) (Quiet.pure (Aq 100 _ _ _ g0 4 _ k4 1 .i64 rfl rfl rfl Tryz.underlying100 kF (by omega)))<|sD 7 rfl (.int .u64 ((lw k4:Nat):Int)) (Quiet.cell 0 g0 (4+k4*1) 102 44 (modc M lw) _ _ rfl kR kR Tryz.underlying44 rfl _ (Pe M lw (j:=k4) (by omega) (by omega))) ?_
     obtain ⟨hi1,lo1,llo1,elo1⟩:=He (y1 (4+k3)) (lw k4)
     refine sD 8 rfl (.tuple #[.int .u64 ((hi1:Nat):Int),.int .u64 ((lo1:Nat):Int)]) (qF 171 #[.int .u64 ((y1 (4+k3):Nat):Int),.int .u64 ((lw k4:Nat):Int)] (λw=>Jg w (y1 (4+k3)) (lw k4) hi1 lo1 (by first | assumption | exact hR _ | exact hlw _ | exact wd_lt _ _ | exact hh1.1 _ | exact hh3.1 _ | exact hh4.1 _ | exact hh5.1 _ | exact hh5.2.1 | exact hh4.2.1 | decide) (by first | assumption | exact hR _ | exact hlw _ | exact wd_lt _ _ | exact hh1.1 _ | exact hh3.1 _ | exact hh4.1 _ | exact hh5.1 _ | exact hh5.2.1 | exact hh4.2.1 | decide) llo1 elo1))<|sZ 9 rfl (.tuple #[.int .u64 ((hi1:Nat):Int),.int .u64 ((lo1:Nat):Int)])<|sZ 10 rfl (.int .u64 ((hi1:Nat):Int))<|sZ 11 rfl (.int .u64 ((lo1:Nat):Int))<|sZ 12 rfl (.int .u64 ((hi1:Nat):Int))<|sZ 13 rfl (.int .u64 ((lo1:Nat):Int)) ?_
     refine sE ?_
     refine sB ?_
     refine sP (.int .u64 ((lo1:Nat):Int))<|sP (.int .i64 ((k3:Nat):Int))<|sP (.int .i64 ((k4:Nat):Int))<|sS (.int .i64 ((k3+k4:Nat):Int)) (Quiet.pure (AC .add _ _ _ .i64 _ _ _ rfl rfl rfl (AO _ _ _ _ _ ((AH (by omega) (by omega)).trans (by omega)))))<|sS (.pointer (some ⟨g3,0+(k3+k4)*1,none⟩)) (Quiet.pure (Aq 205 _ _ _ g3 0 _ (k3+k4) 1 .i64 rfl rfl rfl Tryz.underlying205 kF (by omega)))<|sS (.int .u64 ((y4.1 (k3+k4):Nat):Int)) (Quiet.cell 3 g3 (0+(k3+k4)*1) 205 44 (rw8 y4.1) _ _ rfl kR kR Tryz.underlying44 rfl _ (E5 y4.1 (k:=k3+k4) (by omega) (by omega))) ?_
     obtain ⟨x2,c2,lx2,lc2,ex2,rx2⟩:=CO (lo1) (y4.1 (k3+k4)) (by first | assumption | exact hR _ | exact hlw _ | exact wd_lt _ _ | exact hh1.1 _ | exact hh3.1 _ | exact hh4.1 _ | exact hh5.1 _ | exact hh5.2.1 | exact hh4.2.1 | decide) (by first | assumption | exact hR _ | exact hlw _ | exact wd_lt _ _ | exact hh1.1 _ | exact hh3.1 _ | exact hh4.1 _ | exact hh5.1 _ | exact hh5.2.1 | exact hh4.2.1 | decide)
     refine sS (.tuple #[.int .u64 ((x2:Nat):Int),.int .u64 ((c2:Nat):Int)]) (Quiet.pure (λw=>Eq.trans kR (rx2 w)))<|sP (.tuple #[.int .u64 ((x2:Nat):Int),.int .u64 ((c2:Nat):Int)])<|sP (.int .u64 ((x2:Nat):Int))<|sP (.int .u64 ((c2:Nat):Int))<|sP (.int .u64 ((x2:Nat):Int))<|sP (.int .u64 ((c2:Nat):Int)) ?_
     refine sA ?_
     refine sP (.int .u64 ((x2:Nat):Int))<|sP (.int .u64 ((y4.2:Nat):Int)) ?_
     obtain ⟨x3,c3,lx3,lc3,ex3,rx3⟩:=CO (x2) (y4.2) (by first | assumption | exact hR _ | exact hlw _ | exact wd_lt _ _ | exact hh1.1 _ | exact hh3.1 _ | exact hh4.1 _ | exact hh5.1 _ | exact hh5.2.1 | exact hh4.2.1 | decide) (by first | assumption | exact hR _ | exact hlw _ | exact wd_lt _ _ | exact hh1.1 _ | exact hh3.1 _ | exact hh4.1 _ | exact hh5.1 _ | exact hh5.2.1 | exact hh4.2.1 | decide)
     refine sS (.tuple #[.int .u64 ((x3:Nat):Int),.int .u64 ((c3:Nat):Int)]) (Quiet.pure (λw=>Eq.trans kR (rx3 w)))<|sP (.tuple #[.int .u64 ((x3:Nat):Int),.int .u64 ((c3:Nat):Int)])<|sP (.int .u64 ((x3:Nat):Int))<|sP (.int .u64 ((c3:Nat):Int))<|sP (.int .u64 ((x3:Nat):Int))<|sP (.int .u64 ((c3:Nat):Int)) ?_
     refine sA ?_
     refine sP (.int .i64 ((k3:Nat):Int))<|sP (.int .i64 ((k4:Nat):Int))<|sS (.int .i64 ((k3+k4:Nat):Int)) (Quiet.pure (AC .add _ _ _ .i64 _ _ _ rfl rfl rfl (AO _ _ _ _ _ ((AH (by omega) (by omega)).trans (by omega)))))<|sP (.int .u64 ((x3:Nat):Int))<|sS (.pointer (some ⟨g3,0+(k3+k4)*1,none⟩)) (Quiet.pure (Aq 205 _ _ _ g3 0 _ (k3+k4) 1 .i64 rfl rfl rfl Tryz.underlying205 kF (by omega))) ?_
     refine Sy.write kR 3 g3 205 (rw8 y4.1) (rw8 (upd y4.1 (k3+k4) x3)) kR (Writes.one (0+(k3+k4)*1) 44 (.int .u64 ((x3:Nat):Int)) _ _ rfl kR kR kR rfl rfl (DV _ (k:=k3+k4) (by omega) (by omega)) (DU _ _ (by omega) (by omega))) ?_
     refine sG<|Sy.region ?_
     refine sP (.int .u64 ((hi1:Nat):Int))<|sP (.int .u64 ((c2:Nat):Int)) ?_
     have hst:=QK elo1 ex2 ex3
     have hcar:=Oa hst (by first | assumption | exact hR _ | exact hlw _ | exact wd_lt _ _ | exact hh1.1 _ | exact hh3.1 _ | exact hh4.1 _ | exact hh5.1 _ | exact hh5.2.1 | exact hh4.2.1 | decide) (by first | assumption | exact hR _ | exact hlw _ | exact wd_lt _ _ | exact hh1.1 _ | exact hh3.1 _ | exact hh4.1 _ | exact hh5.1 _ | exact hh5.2.1 | exact hh4.2.1 | decide) (by first | assumption | exact hR _ | exact hlw _ | exact wd_lt _ _ | exact hh1.1 _ | exact hh3.1 _ | exact hh4.1 _ | exact hh5.1 _ | exact hh5.2.1 | exact hh4.2.1 | decide) hh4.2.1
     refine sS (.int .u64 ((hi1+c2:Nat):Int)) (Quiet.pure (AC .add _ _ _ .u64 _ _ _ rfl rfl rfl (AO _ _ _ _ _ ((wrap_u64 (by omega) (by omega)).trans (by omega)))))<|sP (.int .u64 ((c3:Nat):Int))<|sS (.int .u64 (((hi1+c2)+c3:Nat):Int)) (Quiet.pure (AC .add _ _ _ .u64 _ _ _ rfl rfl rfl (AO _ _ _ _ _ ((wrap_u64 (by omega) (by omega)).trans (by omega)))))<|sP (.int .u64 (((hi1+c2)+c3:Nat):Int)) ?_
     refine Sy.nil<|Sy.in_<|Sy.then_<|Sy.region ?_
     refine sP (.int .i64 ((k4:Nat):Int))<|sS (.int .i64 ((k4+1:Nat):Int)) (Quiet.pure (AC .add _ _ _ .i64 _ _ _ rfl rfl rfl (AO _ _ _ _ _ ((AH (by omega) (by omega)).trans (by omega)))))<|sP (.int .i64 ((k4+1:Nat):Int)) ?_
     refine Sy.nil ?_
     have hin:=K3 (E0 y4.1 (k3+k4) x3 8 (by omega)) hh4.2.2 hst (P0:=18446744073709551616 ^ k4) (by rw [Nat.add_comm,Nat.pow_add])
     exact Sy.againX ((upd y4.1 (k3+k4) x3,hi1+c2+c3)) [true,true,true,true] (by omega) (⟨E1 hh4.1 lx3,hcar,by rw [← Nat.add_assoc,Nat.pow_succ]; exact hin⟩) ac7 kR
  ·have lb2:k2<4:=of_decide_eq_true hb2.symm
   refine sT<|Sy.skip<|Sy.then_<|Sy.seq<|Sy.block<|Sy.region ?_
   refine sP (.int .i64 ((k2:Nat):Int))<|sP (.int .i64 ((k2:Nat):Int))<|sS (.pointer (some ⟨g1,0+k2*1,none⟩)) (Quiet.pure (Aq 205 _ _ _ g1 0 _ k2 1 .i64 rfl rfl rfl Tryz.underlying205 kF (by omega)))<|sS (.int .u64 ((y1 k2:Nat):Int)) (Quiet.cell 1 g1 (0+k2*1) 205 44 (rw8 y1) _ _ rfl kR kR Tryz.underlying44 rfl _ (E5 y1 (k:=k2) (by omega) (by omega)))<|sS (.pointer (some ⟨g3,0+k2*1,none⟩)) (Quiet.pure (Aq 205 _ _ _ g3 0 _ k2 1 .i64 rfl rfl rfl Tryz.underlying205 kF (by omega))) ?_
   refine Sy.write kR 3 g3 205 (rw8 (cpy y1 k2)) (rw8 (upd (cpy y1 k2) k2 (y1 k2))) kR (Writes.one (0+k2*1) 44 (.int .u64 ((y1 k2:Nat):Int)) _ _ rfl kR kR kR rfl rfl (DV _ (k:=k2) (by omega) (by omega)) (DU _ _ (by omega) (by omega))) ?_
   refine Sy.nil<|Sy.in_<|Sy.then_<|Sy.region ?_
   refine sP (.int .i64 ((k2:Nat):Int))<|sS (.int .i64 ((k2+1:Nat):Int)) (Quiet.pure (AC .add _ _ _ .i64 _ _ _ rfl rfl rfl (AO _ _ _ _ _ ((AH (by omega) (by omega)).trans (by omega)))))<|sP (.int .i64 ((k2+1:Nat):Int)) ?_
   refine Sy.nil ?_
   exact Sy.againK [true,true,true,true] (M:=[(g0,102,(modc M lw)),(g1,205,(rw8 y1)),(g2,98,(fcs 0)),(g3,205,(rw8 (upd (cpy y1 k2) k2 (y1 k2))))]) (by omega) ac5 kR (AM rfl (AM rfl (AM rfl (AM (beq (congrArg rw8 (OX _ _))) rfl))))
end Fz
end
section
section
open Go.RowKit Go.Lib
def IH (a b c d e f g h:Nat):Nat:=a+18446744073709551616*b+340282366920938463463374607431768211456*c+6277101735386680763835789423207666416102355444464034512896*d+(2^256)*e+2135987035920910082395021706169552114602704522356652769947041607822219725780640550022962086936576*f+39402006196394479212279040100143613805079739270465446667948293404245721771497210611414266254884915640806627990306816*g+726838724295606890549323807888004534353641360687318060281490199180639288113397923326191050713763565560762521606266177933534601628614656*h
def r8 (a b c d e f g h:Nat):Nat→Nat
 | 0=>a
 | 1=>b
 | 2=>c
 | 3=>d
 | 4=>e
 | 5=>f
 | 6=>g
 | 7=>h
 | _=>0
theorem Nk (a b c d e f g h:Nat):Fz.vR (r8 a b c d e f g h) 8=IH a b c d e f g h:=by
 show 0+a*1+b*18446744073709551616+c*340282366920938463463374607431768211456+d*6277101735386680763835789423207666416102355444464034512896+e*(2^256)+f*2135987035920910082395021706169552114602704522356652769947041607822219725780640550022962086936576+g*39402006196394479212279040100143613805079739270465446667948293404245721771497210611414266254884915640806627990306816+h*726838724295606890549323807888004534353641360687318060281490199180639288113397923326191050713763565560762521606266177933534601628614656=IH a b c d e f g h
 unfold IH
 omega
def DF:Nat→Nat
 | 0=>4294968273
 | 1=>0
 | 2=>0
 | _=>0
theorem Cv:∀ t,DF t<18446744073709551616
 | 0=>by decide
 | 1=>by decide
 | 2=>by decide
 | _+3=>by show 0<_; decide
theorem Bw:Fz.modc pM DF=#[.int .u64 18446744069414583343,.int .u64 18446744073709551615,.int .u64 18446744073709551615,.int .u64 18446744073709551615,.int .u64 4294968273,.int .u64 0,.int .u64 0]:=by kernel_rfl
theorem Ct:pM+Fz.vR DF 3=18446744073709551616 ^ 4:=by decide +kernel
theorem DZ:0<pM:=by decide +kernel
theorem Gj (w:World) (d0 d1 d2 d3 d4 d5 d6 d7:Nat) (hd:d0<18446744073709551616∧d1<18446744073709551616∧d2<18446744073709551616∧d3<18446744073709551616∧d4<18446744073709551616∧d5<18446744073709551616∧d6<18446744073709551616∧d7<18446744073709551616):Calls Tryz.prog 173 #[.agg #[.int .u64 18446744069414583343,.int .u64 18446744073709551615,.int .u64 18446744073709551615,.int .u64 18446744073709551615,.int .u64 4294968273,.int .u64 0,.int .u64 0],.agg #[.int .u64 (d0:Int),.int .u64 (d1:Int),.int .u64 (d2:Int),.int .u64 (d3:Int),.int .u64 (d4:Int),.int .u64 (d5:Int),.int .u64 (d6:Int),.int .u64 (d7:Int)]] w λe w'=>e=.returned (fv (IH d0 d1 d2 d3 d4 d5 d6 d7%pM))∧Below w.heap.size w w':=by
 have h:=Fz.foldZ w pM DF Cv DZ Ct (λw x hx=>by rw [Bw]; exact normR_any w x hx) (r8 d0 d1 d2 d3 d4 d5 d6 d7) (λt=>by
  obtain ⟨h0,h1,h2,h3,h4,h5,h6,h7⟩:=hd
  rcases t with _ | _ | _ | _ | _ | _ | _ | _ | t <;> first | assumption | exact Nat.zero_lt_succ _)
 rw [Nk,Bw] at h
 exact h
end
end
section
section
open Go.RowKit Go.Lib
theorem CM (w:World) (a b c d:Obj):Below w.heap.size w ((((w.alloc a).alloc b).alloc c).alloc d):=(AW w a b c).alloc (by simp <;> omega) _
theorem Df (w:World) (a b c d e:Obj):Below w.heap.size w (((((w.alloc a).alloc b).alloc c).alloc d).alloc e):=(CM w a b c d).alloc (by simp <;> omega) _
theorem Gy (w:World) (a b c d:Obj) (t:TypeId) (cs:Array Value):Blk (((((w.alloc a).alloc b).alloc c).alloc d).alloc (.cells cs t)) (w.heap.size+4) t cs:=by
 have h:=Blk.new ((((w.alloc a).alloc b).alloc c).alloc d) t cs
 have e:((((w.alloc a).alloc b).alloc c).alloc d).heap.size=w.heap.size+4:=by simp
 rwa [e] at h
section
variable {P:Program} {ops:Array Oper}
theorem YieldsG.loadP {o:Oper} {a:Act} {w:World} {d:TypeDesc} (hw:Region.wanted o (yielded ops a.tmps)=true) (ty:TypeId) (x:Operand) (ho:o.op=.load ty x)
  (g:Nat) (hx:a.eval x=.pointer (some ⟨g,0,none⟩)) (n:Nat) (cs:List Value) (hl:g<w.heap.size) (hr:w.rangeAt g 0 cs) (hf:fv n=.agg cs.toArray)
  (hu:P.underlying ty=some d) (hd:d.isRow=true) (hi:(P.info? ty).map (·.size)=some cs.length):YieldsG P ops o (fv n) a w:=by
 rw [hf]
 exact YieldsG.load hw ty x ho g 0 hx cs d hl hr hu hd hi
end
set_option maxHeartbeats 8000000 in
set_option maxRecDepth 100000 in
theorem Ex (w:World) (x y:Nat) (hx:x<(2^256)) (hy:y<(2^256)):Calls Tryz.prog 150 #[.agg #[.int .u64 18446744069414583343,.int .u64 18446744073709551615,.int .u64 18446744073709551615,.int .u64 18446744073709551615,.int .u64 4294968273,.int .u64 0,.int .u64 0],fv x,fv y] w λe w'=>e=.returned (fv (Cy x y))∧Below w.heap.size w w':=by
 obtain ⟨x0,x1,x2,x3,a0,a1,a2,a3,ex,fx⟩:=Ag x hx
 obtain ⟨y0,y1,y2,y3,b0,b1,b2,b3,ey,fy⟩:=Ag y hy
 obtain ⟨s0,c0,d0,k0,e0,r0⟩:=CO x0 y0 a0 b0
 obtain ⟨s1,c1,d1,k1,e1,r1⟩:=B4 x1 y1 c0 a1 b1 k0
 obtain ⟨s2,c2,d2,k2,e2,r2⟩:=B4 x2 y2 c1 a2 b2 k1
 obtain ⟨s3,c3,d3,k3,e3,r3⟩:=B4 x3 y3 c2 a3 b3 k2
 have fin:IH s0 s1 s2 s3 c3 0 0 0=x+y:=by simp only [IH]; omega
 obtain ⟨z,hz⟩:∃ z,z=Cy x y:=⟨_,rfl⟩
 have cF:∀ w,Calls Tryz.prog 173 #[.agg #[.int .u64 18446744069414583343,.int .u64 18446744073709551615,.int .u64 18446744073709551615,.int .u64 18446744073709551615,.int .u64 4294968273,.int .u64 0,.int .u64 0],.agg #[.int .u64 (s0:Int),.int .u64 (s1:Int),.int .u64 (s2:Int),.int .u64 (s3:Int),.int .u64 (c3:Int),.int .u64 0,.int .u64 0,.int .u64 0]] w λe w'=>e=.returned (fv z)∧Below w.heap.size w w':=by
  intro w
  have h:=Gj w s0 s1 s2 s3 c3 0 0 0 ⟨d0,d1,d2,d3,by omega,by omega,by omega,by omega⟩
  rw [fin] at h
  rw [hz]
  exact h
 rw [fx,fy, ← hz]
 clear fx fy ex ey hx hy hz a0 a1 a2 a3 b0 b1 b2 b3 d0 d1 d2 d3 k0 k1 k2 k3 e0 e1 e2 e3 fin
 go_enter Tryz.func150,Tryz.ntmps150
 go_wp2_with fail
 go_loopw [8,9] (λbo i wr=>Below w.heap.size w wr∧Blk wr w.heap.size 102 #[.int .u64 18446744069414583343,.int .u64 18446744073709551615,.int .u64 18446744073709551615,.int .u64 18446744073709551615,.int .u64 4294968273,.int .u64 0,.int .u64 0]∧Blk wr (w.heap.size+1) 98 #[.int .u64 (x0:Int),.int .u64 (x1:Int),.int .u64 (x2:Int),.int .u64 (x3:Int)]∧Blk wr (w.heap.size+2) 98 #[.int .u64 (y0:Int),.int .u64 (y1:Int),.int .u64 (y2:Int),.int .u64 (y3:Int)]∧Blk wr (w.heap.size+3) 98 #[.int .u64 0,.int .u64 0,.int .u64 0,.int .u64 0]∧Hid ((i=.int .i64 0∧bo=.int .u64 0∧Blk wr (w.heap.size+4) 205 #[.int .u64 0,.int .u64 0,.int .u64 0,.int .u64 0,.int .u64 0,.int .u64 0,.int .u64 0,.int .u64 0])∨(i=.int .i64 1∧bo=.int .u64 (c0:Int)∧Blk wr (w.heap.size+4) 205 #[.int .u64 (s0:Int),.int .u64 0,.int .u64 0,.int .u64 0,.int .u64 0,.int .u64 0,.int .u64 0,.int .u64 0])∨(i=.int .i64 2∧bo=.int .u64 (c1:Int)∧Blk wr (w.heap.size+4) 205 #[.int .u64 (s0:Int),.int .u64 (s1:Int),.int .u64 0,.int .u64 0,.int .u64 0,.int .u64 0,.int .u64 0,.int .u64 0])∨(i=.int .i64 3∧bo=.int .u64 (c2:Int)∧Blk wr (w.heap.size+4) 205 #[.int .u64 (s0:Int),.int .u64 (s1:Int),.int .u64 (s2:Int),.int .u64 0,.int .u64 0,.int .u64 0,.int .u64 0,.int .u64 0])∨(i=.int .i64 4∧bo=.int .u64 (c3:Int)∧Blk wr (w.heap.size+4) 205 #[.int .u64 (s0:Int),.int .u64 (s1:Int),.int .u64 (s2:Int),.int .u64 (s3:Int),.int .u64 0,.int .u64 0,.int .u64 0,.int .u64 0]))) (λ_ i _=>4 - (intOf i).toNat)
 case atStart=>exact ⟨Df w _ _ _ _ _,(((((Blk.new w _ _).alloc _).alloc _).alloc _).alloc _),((((Aa w _ _ _).alloc _).alloc _).alloc _),(((Ah w _ _ _ _).alloc _).alloc _),((DM w _ _ _ _ _).alloc _),Lib.hid (.inl ⟨rfl,rfl,Gy w _ _ _ _ _ _⟩)⟩
 case round =>
  obtain ⟨hb,BM,BX,BY,BR,HI⟩:=hrel
  have lX:=BX.lt
  have lY:=BY.lt
  have lR:=BR.lt
  rcases HI.out with ⟨rfl,rfl,BW⟩ | ⟨rfl,rfl,BW⟩ | ⟨rfl,rfl,BW⟩ | ⟨rfl,rfl,BW⟩ | ⟨rfl,rfl,BW⟩
  ·clear HI
   have px:wr.cell? ⟨w.heap.size+1,0,none⟩=some (.int .u64 (x0:Int)):=BX.cell 0
   have py:wr.cell? ⟨w.heap.size+2,0,none⟩=some (.int .u64 (y0:Int)):=BY.cell 0
   go_wp2
   refine wp_region_G (λ_=>false) (by kernel_rfl) ?_
   try simp only [Act.put]
   refine tk 0 rfl ?_
   try simp only [Act.put,aA,aZ,aS]
   refine tk 1 rfl ?_
   try simp only [Act.put,aA,aZ,aS]
   refine tkw 2 rfl (YieldsG.pure (v:=.int .u64 (x0:Int)) (by rfl) (λw9 h9=>by have hz:=(Below.cell (p:=⟨w.heap.size+1,0,none⟩) h9 lX).trans px; go_simp; first | done | simp [hz])) ?_
   try simp only [Act.put,aA,aZ,aS]
   refine tk 3 rfl ?_
   try simp only [Act.put,aA,aZ,aS]
   refine tk 4 rfl ?_
   try simp only [Act.put,aA,aZ,aS]
   refine tkw 5 rfl (YieldsG.pure (v:=.int .u64 (y0:Int)) (by rfl) (λw9 h9=>by have hz:=(Below.cell (p:=⟨w.heap.size+2,0,none⟩) h9 lY).trans py; go_simp; first | done | simp [hz])) ?_
   try simp only [Act.put,aA,aZ,aS]
   refine tk 6 rfl ?_
   try simp only [Act.put,aA,aZ,aS]
   refine tkw 7 rfl (YieldsG.pure (v:=.tuple #[.int .u64 (s0:Int),.int .u64 (c0:Int)]) (by rfl) (λw9 h9=>by go_simp)) ?_
   try simp only [Act.put,aA,aZ,aS]
   refine tk 8 rfl ?_
   try simp only [Act.put,aA,aZ,aS]
   refine tk 9 rfl ?_
   try simp only [Act.put,aA,aZ,aS]
   refine tk 10 rfl ?_
   try simp only [Act.put,aA,aZ,aS]
   refine tk 11 rfl ?_
   try simp only [Act.put,aA,aZ,aS]
   refine tk 12 rfl ?_
   try simp only [Act.put,aA,aZ,aS]
   refine wpAnyG_done (by kernel_rfl) (λu hu=>?_)
   have BM:=Gr.blk hu BM
   have BX:=Gr.blk hu BX
   have BY:=Gr.blk hu BY
   have BR:=Gr.blk hu BR
   have BW:=Gr.blk hu BW
   have hb:=Below.gr hb hu
   have pc:u.cell? ⟨w.heap.size+4,0,none⟩=some (.int .u64 0):=BW.cell 0
   have pf:=BW.frozen 0
   clear hu px py
   go_wp2
   refine ⟨⟨hb.setCell (by show w.heap.size≤w.heap.size+4; omega) _,BM.far (by show w.heap.size≠w.heap.size+4; omega) _,BX.far (by show w.heap.size+1≠w.heap.size+4; omega) _,BY.far (by show w.heap.size+2≠w.heap.size+4; omega) _,BR.far (by show w.heap.size+3≠w.heap.size+4; omega) _,Lib.hid (.inr (.inl (⟨rfl,rfl,BW.set_ 0 _⟩)))⟩,by decide⟩
  ·clear HI
   have px:wr.cell? ⟨w.heap.size+1,1,none⟩=some (.int .u64 (x1:Int)):=BX.cell 1
   have py:wr.cell? ⟨w.heap.size+2,1,none⟩=some (.int .u64 (y1:Int)):=BY.cell 1
   go_wp2
   refine wp_region_G (λ_=>false) (by kernel_rfl) ?_
   try simp only [Act.put]
   refine tk 0 rfl ?_
   try simp only [Act.put,aA,aZ,aS]
   refine tk 1 rfl ?_
   try simp only [Act.put,aA,aZ,aS]
   refine tkw 2 rfl (YieldsG.pure (v:=.int .u64 (x1:Int)) (by rfl) (λw9 h9=>by have hz:=(Below.cell (p:=⟨w.heap.size+1,1,none⟩) h9 lX).trans px; go_simp; first | done | simp [hz])) ?_
   try simp only [Act.put,aA,aZ,aS]
   refine tk 3 rfl ?_
   try simp only [Act.put,aA,aZ,aS]
   refine tk 4 rfl ?_
   try simp only [Act.put,aA,aZ,aS]
   refine tkw 5 rfl (YieldsG.pure (v:=.int .u64 (y1:Int)) (by rfl) (λw9 h9=>by have hz:=(Below.cell (p:=⟨w.heap.size+2,1,none⟩) h9 lY).trans py; go_simp; first | done | simp [hz])) ?_
   try simp only [Act.put,aA,aZ,aS]
   refine tk 6 rfl ?_
   try simp only [Act.put,aA,aZ,aS]
   refine tkw 7 rfl (YieldsG.pure (v:=.tuple #[.int .u64 (s1:Int),.int .u64 (c1:Int)]) (by rfl) (λw9 h9=>by go_simp)) ?_
   try simp only [Act.put,aA,aZ,aS]
   refine tk 8 rfl ?_
   try simp only [Act.put,aA,aZ,aS]
   refine tk 9 rfl ?_
   try simp only [Act.put,aA,aZ,aS]
   refine tk 10 rfl ?_
   try simp only [Act.put,aA,aZ,aS]
   refine tk 11 rfl ?_
   try simp only [Act.put,aA,aZ,aS]
   refine tk 12 rfl ?_
   try simp only [Act.put,aA,aZ,aS]
   refine wpAnyG_done (by kernel_rfl) (λu hu=>?_)
   have BM:=Gr.blk hu BM
   have BX:=Gr.blk hu BX
   have BY:=Gr.blk hu BY
   have BR:=Gr.blk hu BR
   have BW:=Gr.blk hu BW
   have hb:=Below.gr hb hu
   have pc:u.cell? ⟨w.heap.size+4,1,none⟩=some (.int .u64 0):=BW.cell 1
   have pf:=BW.frozen 1
   clear hu px py
   go_wp2
   refine ⟨⟨hb.setCell (by show w.heap.size≤w.heap.size+4; omega) _,BM.far (by show w.heap.size≠w.heap.size+4; omega) _,BX.far (by show w.heap.size+1≠w.heap.size+4; omega) _,BY.far (by show w.heap.size+2≠w.heap.size+4; omega) _,BR.far (by show w.heap.size+3≠w.heap.size+4; omega) _,Lib.hid (.inr (.inr (.inl (⟨rfl,rfl,BW.set_ 1 _⟩))))⟩,by decide⟩
  ·clear HI
   have px:wr.cell? ⟨w.heap.size+1,2,none⟩=some (.int .u64 (x2:Int)):=BX.cell 2
   have py:wr.cell? ⟨w.heap.size+2,2,none⟩=some (.int .u64 (y2:Int)):=BY.cell 2
   go_wp2
   refine wp_region_G (λ_=>false) (by kernel_rfl) ?_
   try simp only [Act.put]
   refine tk 0 rfl ?_
   try simp only [Act.put,aA,aZ,aS]
   refine tk 1 rfl ?_
   try simp only [Act.put,aA,aZ,aS]
   refine tkw 2 rfl (YieldsG.pure (v:=.int .u64 (x2:Int)) (by rfl) (λw9 h9=>by have hz:=(Below.cell (p:=⟨w.heap.size+1,2,none⟩) h9 lX).trans px; go_simp; first | done | simp [hz])) ?_
   try simp only [Act.put,aA,aZ,aS]
   refine tk 3 rfl ?_
   try simp only [Act.put,aA,aZ,aS]
   refine tk 4 rfl ?_
   try simp only [Act.put,aA,aZ,aS]
   refine tkw 5 rfl (YieldsG.pure (v:=.int .u64 (y2:Int)) (by rfl) (λw9 h9=>by have hz:=(Below.cell (p:=⟨w.heap.size+2,2,none⟩) h9 lY).trans py; go_simp; first | done | simp [hz])) ?_
   try simp only [Act.put,aA,aZ,aS]
   refine tk 6 rfl ?_
   try simp only [Act.put,aA,aZ,aS]
   refine tkw 7 rfl (YieldsG.pure (v:=.tuple #[.int .u64 (s2:Int),.int .u64 (c2:Int)]) (by rfl) (λw9 h9=>by go_simp)) ?_
   try simp only [Act.put,aA,aZ,aS]
   refine tk 8 rfl ?_
   try simp only [Act.put,aA,aZ,aS]
   refine tk 9 rfl ?_
   try simp only [Act.put,aA,aZ,aS]
   refine tk 10 rfl ?_
   try simp only [Act.put,aA,aZ,aS]
   refine tk 11 rfl ?_
   try simp only [Act.put,aA,aZ,aS]
   refine tk 12 rfl ?_
   try simp only [Act.put,aA,aZ,aS]
   refine wpAnyG_done (by kernel_rfl) (λu hu=>?_)
   have BM:=Gr.blk hu BM
   have BX:=Gr.blk hu BX
   have BY:=Gr.blk hu BY
   have BR:=Gr.blk hu BR
   have BW:=Gr.blk hu BW
   have hb:=Below.gr hb hu
   have pc:u.cell? ⟨w.heap.size+4,2,none⟩=some (.int .u64 0):=BW.cell 2
   have pf:=BW.frozen 2
   clear hu px py
   go_wp2
   refine ⟨⟨hb.setCell (by show w.heap.size≤w.heap.size+4; omega) _,BM.far (by show w.heap.size≠w.heap.size+4; omega) _,BX.far (by show w.heap.size+1≠w.heap.size+4; omega) _,BY.far (by show w.heap.size+2≠w.heap.size+4; omega) _,BR.far (by show w.heap.size+3≠w.heap.size+4; omega) _,Lib.hid (.inr (.inr (.inr (.inl (⟨rfl,rfl,BW.set_ 2 _⟩)))))⟩,by decide⟩
  ·clear HI
   have px:wr.cell? ⟨w.heap.size+1,3,none⟩=some (.int .u64 (x3:Int)):=BX.cell 3
   have py:wr.cell? ⟨w.heap.size+2,3,none⟩=some (.int .u64 (y3:Int)):=BY.cell 3
   go_wp2
   refine wp_region_G (λ_=>false) (by kernel_rfl) ?_
   try simp only [Act.put]
   refine tk 0 rfl ?_
   try simp only [Act.put,aA,aZ,aS]
   refine tk 1 rfl ?_
   try simp only [Act.put,aA,aZ,aS]
   refine tkw 2 rfl (YieldsG.pure (v:=.int .u64 (x3:Int)) (by rfl) (λw9 h9=>by have hz:=(Below.cell (p:=⟨w.heap.size+1,3,none⟩) h9 lX).trans px; go_simp; first | done | simp [hz])) ?_
   try simp only [Act.put,aA,aZ,aS]
   refine tk 3 rfl ?_
   try simp only [Act.put,aA,aZ,aS]
   refine tk 4 rfl ?_
   try simp only [Act.put,aA,aZ,aS]
   refine tkw 5 rfl (YieldsG.pure (v:=.int .u64 (y3:Int)) (by rfl) (λw9 h9=>by have hz:=(Below.cell (p:=⟨w.heap.size+2,3,none⟩) h9 lY).trans py; go_simp; first | done | simp [hz])) ?_
   try simp only [Act.put,aA,aZ,aS]
   refine tk 6 rfl ?_
   try simp only [Act.put,aA,aZ,aS]
   refine tkw 7 rfl (YieldsG.pure (v:=.tuple #[.int .u64 (s3:Int),.int .u64 (c3:Int)]) (by rfl) (λw9 h9=>by go_simp)) ?_
   try simp only [Act.put,aA,aZ,aS]
   refine tk 8 rfl ?_
   try simp only [Act.put,aA,aZ,aS]
   refine tk 9 rfl ?_
   try simp only [Act.put,aA,aZ,aS]
   refine tk 10 rfl ?_
   try simp only [Act.put,aA,aZ,aS]
   refine tk 11 rfl ?_
   try simp only [Act.put,aA,aZ,aS]
   refine tk 12 rfl ?_
   try simp only [Act.put,aA,aZ,aS]
   refine wpAnyG_done (by kernel_rfl) (λu hu=>?_)
   have BM:=Gr.blk hu BM
   have BX:=Gr.blk hu BX
   have BY:=Gr.blk hu BY
   have BR:=Gr.blk hu BR
   have BW:=Gr.blk hu BW
   have hb:=Below.gr hb hu
   have pc:u.cell? ⟨w.heap.size+4,3,none⟩=some (.int .u64 0):=BW.cell 3
   have pf:=BW.frozen 3
   clear hu px py
   go_wp2
   refine ⟨⟨hb.setCell (by show w.heap.size≤w.heap.size+4; omega) _,BM.far (by show w.heap.size≠w.heap.size+4; omega) _,BX.far (by show w.heap.size+1≠w.heap.size+4; omega) _,BY.far (by show w.heap.size+2≠w.heap.size+4; omega) _,BR.far (by show w.heap.size+3≠w.heap.size+4; omega) _,Lib.hid (.inr (.inr (.inr (.inr (⟨rfl,rfl,BW.set_ 3 _⟩)))))⟩,by decide⟩
  ·clear HI
   have pc:wr.cell? ⟨w.heap.size+4,4,none⟩=some (.int .u64 0):=BW.cell 4
   have pf:=BW.frozen 4
   have BM4:Blk (wr.setCell ⟨w.heap.size+4,4,none⟩ (.int .u64 (c3:Int))) w.heap.size 102 #[.int .u64 18446744069414583343,.int .u64 18446744073709551615,.int .u64 18446744073709551615,.int .u64 18446744073709551615,.int .u64 4294968273,.int .u64 0,.int .u64 0]:=BM.far (by show w.heap.size≠w.heap.size+4; omega) _
   have BW4:Blk (wr.setCell ⟨w.heap.size+4,4,none⟩ (.int .u64 (c3:Int))) (w.heap.size+4) 205 #[.int .u64 (s0:Int),.int .u64 (s1:Int),.int .u64 (s2:Int),.int .u64 (s3:Int),.int .u64 (c3:Int),.int .u64 0,.int .u64 0,.int .u64 0]:=BW.set_ 4 _
   have BR4:Blk (wr.setCell ⟨w.heap.size+4,4,none⟩ (.int .u64 (c3:Int))) (w.heap.size+3) 98 #[.int .u64 0,.int .u64 0,.int .u64 0,.int .u64 0]:=BR.far (by show w.heap.size+3≠w.heap.size+4; omega) _
   have hb4:Below w.heap.size w (wr.setCell ⟨w.heap.size+4,4,none⟩ (.int .u64 (c3:Int))):=hb.setCell (by show w.heap.size≤w.heap.size+4; omega) _
   have H4:=Lib.hid (And.intro BM4 (And.intro BW4 (And.intro BR4 hb4)))
   clear BM BX BY BR BW hb BM4 BW4 BR4 hb4
   go_wp2_with (first | ((with_reducible refine AD (d:=some 33) ?_); refine Al rfl _ _ rfl w.heap.size rfl _ _ _ H4.out.1 Tryz.underlying102 rfl (by kernel_rfl) ?_) | ((with_reducible refine AD (d:=some 34) ?_); refine Al rfl _ _ rfl (w.heap.size+4) rfl _ _ _ H4.out.2.1 Tryz.underlying205 rfl (by kernel_rfl) ?_))
   refine (cF _).mono ?_
   rintro e u ⟨rfl,hu⟩
   have BRu:=Gr.blk hu H4.out.2.2.1
   have hbu:=Below.gr H4.out.2.2.2 hu
   clear hu H4 cF
   go_wp2_with (first | ((with_reducible refine AF ?_); refine AB rfl _ _ _ rfl (w.heap.size+3) (fcs (z)) rfl rfl _ _ (BRu) (by kernel_rfl) (by rfl) (AG _) ?_; intro w9 hL9 hB9 hK9))
   exact bodyPost_ret (results_cell_row rfl _ _ (w.heap.size+3) _ _ (0,0) _ rfl hL9 Tryz.underlying98 rfl (by kernel_rfl)) rfl ⟨rfl,hbu.trans (hB9 _ (by omega))⟩
set_option maxHeartbeats 2000000 in
set_option maxRecDepth 100000 in
theorem Ge (w:World) (x:Nat) (hx:x<(2^256)):Calls Tryz.prog 170 #[.agg #[.int .u64 18446744069414583343,.int .u64 18446744073709551615,.int .u64 18446744073709551615,.int .u64 18446744073709551615,.int .u64 4294968273,.int .u64 0,.int .u64 0],fv x] w λe w'=>e=.returned (fv (negP x))∧Below w.heap.size w w':=by
 obtain ⟨n,hn⟩:∃ n,n=x%pM:=⟨_,rfl⟩
 have np:n<115792089237316195423570985008687907853269984665640564039457584007908834671663:=by rw [hn]; exact mod_lt_p x
 obtain ⟨p,hp⟩:∃ p,p=115792089237316195423570985008687907853269984665640564039457584007908834671663:=⟨_,rfl⟩
 obtain ⟨q,hq⟩:∃ q,q=p - n:=⟨_,rfl⟩
 obtain ⟨g,hg⟩:∃ g,g=negP x:=⟨_,rfl⟩
 have hgq:q%pM=g:=by rw [hg,negP, ← hn,hq,hp]; rfl
 have cN:∀ w,Calls Tryz.prog 59 #[.agg #[.int .u64 18446744069414583343,.int .u64 18446744073709551615,.int .u64 18446744073709551615,.int .u64 18446744073709551615,.int .u64 4294968273,.int .u64 0,.int .u64 0],fv x] w λe w'=>e=.returned (fv n)∧Below w.heap.size w w':=by
  intro w; rw [hn]; exact normR_any w x hx
 have cM:∀ w,Calls Tryz.prog 120 #[fv p,fv n] w λe w'=>e=.returned (fv q)∧Below w.heap.size w w':=λw=>Cj w p n q 0 rfl rfl (by omega) (by omega) (by omega) (by omega)
 have cG:∀ w,Calls Tryz.prog 59 #[.agg #[.int .u64 18446744069414583343,.int .u64 18446744073709551615,.int .u64 18446744073709551615,.int .u64 18446744073709551615,.int .u64 4294968273,.int .u64 0,.int .u64 0],fv q] w λe w'=>e=.returned (fv g)∧Below w.heap.size w w':=by
  intro w; rw [← hgq]; exact normR_any w q (by omega)
 have FP:Hid (fv p=.agg #[.int .u64 18446744069414583343,.int .u64 18446744073709551615,.int .u64 18446744073709551615,.int .u64 18446744073709551615]):=Lib.hid (by rw [hp]; exact Jq)
 obtain ⟨x0,x1,x2,x3,fx⟩:=AZ x hx
 have FX:=Lib.hid fx
 rw [fx, ← hg]
 clear fx hx hn np hp hq hg hgq
 go_enter Tryz.func170,Tryz.ntmps170
 go_wp2
 refine wp_region_G (λj=>j == 8) (by kernel_rfl) ?_
 try simp only [Act.put]
 refine tkw 0 rfl (YieldsG.load (by rfl) _ _ rfl w.heap.size 0 rfl ([.int .u64 18446744069414583343,.int .u64 18446744073709551615,.int .u64 18446744073709551615,.int .u64 18446744073709551615,.int .u64 4294968273,.int .u64 0,.int .u64 0]) _ (Blk.lt (((Blk.new w _ _).alloc _).alloc _)) (Blk.range (((Blk.new w _ _).alloc _).alloc _)) Tryz.underlying102 rfl (by kernel_rfl)) ?_
 try simp only [Act.put,aA,aZ,aS]
 refine tk 1 rfl ?_
 try simp only [Act.put,aA,aZ,aS]
 refine tkw 2 rfl (YieldsG.loadP (by rfl) _ _ rfl w.heap.size rfl p _ (Blk.lt (((Blk.new w _ _).alloc _).alloc _)) (Bx (((Blk.new w _ _).alloc _).alloc _)) FP.out Tryz.underlying98 rfl (by kernel_rfl)) ?_
 try simp only [Act.put,aA,aZ,aS]
 refine tkw 3 rfl (YieldsG.load (by rfl) _ _ rfl w.heap.size 0 rfl ([.int .u64 18446744069414583343,.int .u64 18446744073709551615,.int .u64 18446744073709551615,.int .u64 18446744073709551615,.int .u64 4294968273,.int .u64 0,.int .u64 0]) _ (Blk.lt (((Blk.new w _ _).alloc _).alloc _)) (Blk.range (((Blk.new w _ _).alloc _).alloc _)) Tryz.underlying102 rfl (by kernel_rfl)) ?_
 try simp only [Act.put,aA,aZ,aS]
 refine tkw 4 rfl (YieldsG.loadF (by rfl) _ _ rfl (w.heap.size+1) rfl (x) _ _ ((Aa w _ _ _).alloc _) (FX.out) Tryz.underlying98 rfl (by kernel_rfl)) ?_
 try simp only [Act.put,aA,aZ,aS]
 refine tkw 5 rfl (YieldsG.call (v:=fv n) (by rfl) 59 _ (λw9=>by go_simp; try (first | with_reducible rfl | rfl)) (λw9 h9=>cN w9)) ?_
 try simp only [Act.put,aA,aZ,aS]
 refine tkw 6 rfl (YieldsG.call (v:=fv q) (by rfl) 120 _ (λw9=>by go_simp; try (first | with_reducible rfl | rfl)) (λw9 h9=>cM w9)) ?_
 try simp only [Act.put,aA,aZ,aS]
 refine tkw 7 rfl (YieldsG.call (v:=fv g) (by rfl) 59 _ (λw9=>by go_simp; try (first | with_reducible rfl | rfl)) (λw9 h9=>cG w9)) ?_
 try simp only [Act.put,aA,aZ,aS]
 refine An 8 rfl (by kernel_rfl) (by rfl) _ _ _ rfl (w.heap.size+2) (fcs (g)) rfl rfl _ _ (Ah w _ _ _ _) (by kernel_rfl) (by rfl) (AG _) rfl (λw6 h6 w7 hB7 hL7=>?_)
 try simp only [Act.put]
 refine wpAnyG_done (by kernel_rfl) (λw8 h8=>?_)
 have hfin:=Gr.blk h8 hL7
 have hb9:=(Below.gr (AW w _ _ _) h6).trans ((hB7 _ (by omega)).trans (Below.mono h8 (by have:=hL7.lt; omega)))
 go_wp2
 exact bodyPost_ret (results_cell_row rfl _ _ (w.heap.size+2) _ _ (0,0) _ rfl hfin Tryz.underlying98 rfl (by kernel_rfl)) rfl ⟨rfl,hb9⟩
theorem KR (x y:Nat):Cy x (negP y)=subP x y:=by
 unfold Cy negP subP
 rw [Nat.add_mod_mod]
set_option maxHeartbeats 2000000 in
set_option maxRecDepth 100000 in
theorem subR_any (w:World) (x y:Nat) (hx:x<(2^256)) (hy:y<(2^256)):Calls Tryz.prog 114 #[.agg #[.int .u64 18446744069414583343,.int .u64 18446744073709551615,.int .u64 18446744073709551615,.int .u64 18446744073709551615,.int .u64 4294968273,.int .u64 0,.int .u64 0],fv x,fv y] w λe w'=>e=.returned (fv (subP x y))∧Below w.heap.size w w':=by
 obtain ⟨g,hg⟩:∃ g,g=negP y:=⟨_,rfl⟩
 obtain ⟨z,hz⟩:∃ z,z=subP x y:=⟨_,rfl⟩
 have cG:∀ w,Calls Tryz.prog 170 #[.agg #[.int .u64 18446744069414583343,.int .u64 18446744073709551615,.int .u64 18446744073709551615,.int .u64 18446744073709551615,.int .u64 4294968273,.int .u64 0,.int .u64 0],fv y] w λe w'=>e=.returned (fv g)∧Below w.heap.size w w':=by
  intro w; rw [hg]; exact Ge w y hy
 have cA:∀ w,Calls Tryz.prog 150 #[.agg #[.int .u64 18446744069414583343,.int .u64 18446744073709551615,.int .u64 18446744073709551615,.int .u64 18446744073709551615,.int .u64 4294968273,.int .u64 0,.int .u64 0],fv x,fv g] w λe w'=>e=.returned (fv z)∧Below w.heap.size w w':=by
  intro w; rw [hz, ← KR, ← hg]; exact Ex w x g hx (by rw [hg]; exact Fy _)
 obtain ⟨x0,x1,x2,x3,fx⟩:=AZ x hx
 obtain ⟨y0,y1,y2,y3,fy⟩:=AZ y hy
 have FX:=Lib.hid fx
 have FY:=Lib.hid fy
 rw [fx,fy, ← hz]
 clear fx fy hx hy hg hz
 go_enter Tryz.func114,Tryz.ntmps114
 go_wp2
 refine wp_region_G (λj=>j == 6) (by kernel_rfl) ?_
 try simp only [Act.put]
 refine tkw 0 rfl (YieldsG.load (by rfl) _ _ rfl w.heap.size 0 rfl ([.int .u64 18446744069414583343,.int .u64 18446744073709551615,.int .u64 18446744073709551615,.int .u64 18446744073709551615,.int .u64 4294968273,.int .u64 0,.int .u64 0]) _ (Blk.lt ((((Blk.new w _ _).alloc _).alloc _).alloc _)) (Blk.range ((((Blk.new w _ _).alloc _).alloc _).alloc _)) Tryz.underlying102 rfl (by kernel_rfl)) ?_
 try simp only [Act.put,aA,aZ,aS]
 refine tkw 1 rfl (YieldsG.loadF (by rfl) _ _ rfl (w.heap.size+1) rfl (x) _ _ (((Aa w _ _ _).alloc _).alloc _) (FX.out) Tryz.underlying98 rfl (by kernel_rfl)) ?_
 try simp only [Act.put,aA,aZ,aS]
 refine tkw 2 rfl (YieldsG.load (by rfl) _ _ rfl w.heap.size 0 rfl ([.int .u64 18446744069414583343,.int .u64 18446744073709551615,.int .u64 18446744073709551615,.int .u64 18446744073709551615,.int .u64 4294968273,.int .u64 0,.int .u64 0]) _ (Blk.lt ((((Blk.new w _ _).alloc _).alloc _).alloc _)) (Blk.range ((((Blk.new w _ _).alloc _).alloc _).alloc _)) Tryz.underlying102 rfl (by kernel_rfl)) ?_
 try simp only [Act.put,aA,aZ,aS]
 refine tkw 3 rfl (YieldsG.loadF (by rfl) _ _ rfl (w.heap.size+2) rfl (y) _ _ ((Ah w _ _ _ _).alloc _) (FY.out) Tryz.underlying98 rfl (by kernel_rfl)) ?_
 try simp only [Act.put,aA,aZ,aS]
 refine tkw 4 rfl (YieldsG.call (v:=fv g) (by rfl) 170 _ (λw9=>by go_simp; try (first | with_reducible rfl | rfl)) (λw9 h9=>cG w9)) ?_
 try simp only [Act.put,aA,aZ,aS]
 refine tkw 5 rfl (YieldsG.call (v:=fv z) (by rfl) 150 _ (λw9=>by go_simp; try (first | with_reducible rfl | rfl)) (λw9 h9=>cA w9)) ?_
 try simp only [Act.put,aA,aZ,aS]
 refine An 6 rfl (by kernel_rfl) (by rfl) _ _ _ rfl (w.heap.size+3) (fcs (z)) rfl rfl _ _ (DM w _ _ _ _ _) (by kernel_rfl) (by rfl) (AG _) rfl (λw6 h6 w7 hB7 hL7=>?_)
 try simp only [Act.put]
 refine wpAnyG_done (by kernel_rfl) (λw8 h8=>?_)
 have hfin:=Gr.blk h8 hL7
 have hb9:=(Below.gr (CM w _ _ _ _) h6).trans ((hB7 _ (by omega)).trans (Below.mono h8 (by have:=hL7.lt; omega)))
 go_wp2
 exact bodyPost_ret (results_cell_row rfl _ _ (w.heap.size+3) _ _ (0,0) _ rfl hfin Tryz.underlying98 rfl (by kernel_rfl)) rfl ⟨rfl,hb9⟩
end
end
section
namespace Fz
open Go.RowKit Go.Lib Sy
set_option maxHeartbeats 4000000 in
set_option maxRecDepth 100000 in
theorem mulZ (w:World) (M:Nat) (lw:Nat→Nat) (hlw:∀ t,lw t<18446744073709551616) (hM0:0<M) (hM:M+vR lw 3=18446744073709551616 ^ 4) (hnorm:∀ w x,x<(2^256)→Calls Tryz.prog 59 #[.agg (modc M lw),fv x] w (Gets w (fv (x%M)))) (x y:Nat) (hx:x<(2^256)) (hy:y<(2^256)):Calls Tryz.prog 115 #[.agg (modc M lw),fv x,fv y] w (Gets w (fv (x*y%M))):=by
 refine Sy.enter (args:=[.agg (modc M lw),fv x,fv y]) Tryz.func115 rfl kL ?_
 refine sC ?_
 refine sM 102 (modc M lw) (λg0=>?_)
 refine sM 98 (fcs x) (λg1=>?_)
 refine sM 98 (fcs y) (λg2=>?_)
 refine sM 98 (fcs 0) (λg3=>?_)
 refine sA ?_
 refine Sy.make kR 205 (rw8 (λ_=>0)) ptr kF (λg4=>?_)
 refine sG<|Sy.seq<|sC ?_
 refine sP (.int .i64 0) ?_
 refine sG<|Sy.block ?_
 refine Sy.loopX (T:=Nat→Nat) 4 (λk1 y1=>[(3,.pointer (some ⟨g0,0,none⟩)),(4,.pointer (some ⟨g1,0,none⟩)),(5,.pointer (some ⟨g2,0,none⟩)),(6,.pointer (some ⟨g3,0,none⟩)),(7,.pointer (some ⟨g4,0,none⟩)),(8,.int .i64 ((k1:Nat):Int))]) (λk1 y1=>[(g0,102,(modc M lw)),(g1,98,(fcs x)),(g2,98,(fcs y)),(g3,98,(fcs 0)),(g4,205,(rw8 y1))]) (λk1 y1=>(∀ t,y1 t<18446744073709551616)∧vR y1 8=vR (wd x) k1*vR (wd y) 4∧∀ t,k1+4≤t→y1 t=0) (λ_=>0) [true,true,true,true,true] (⟨λ_=>by show (0:Nat)<18446744073709551616; decide,by rw [Fl]; exact (Nat.zero_mul _).symm,λ_ _=>rfl⟩) ac6 kR (λk1 y1 hk1 hh1=>?_)
 refine Sy.seq<|sC ?_
 refine sP (.int .i64 ((k1:Nat):Int)) ?_
 obtain ⟨b1,hb1⟩:∃ z:Bool,z=decide (k1<4):=⟨_,rfl⟩
 refine sS (.bool b1) (Quiet.pure (AC .lss _ _ _ .i64 _ _ _ rfl rfl rfl (AY _ _ _ _ _ (by rw [hb1]; exact decide_eq_decide.2 (by omega))))) ?_
 refine sG ?_
 cases b1
 ·have lb1:¬ (k1<4):=of_decide_eq_false hb1.symm
  refine sU<|Sy.exit<|Sy.then_exit<|Sy.then_exit ?_
  obtain rfl:k1=4:=by omega
  refine Sy.in_exit<|sB ?_
  refine sS (.agg (modc M lw)) (qL 0 g0 0 7 102 102 (modc M lw) rfl Tryz.underlying102)<|sS (.agg (rw8 y1)) (Quiet.load 4 g4 0 8 205 205 (rw8 y1) _ _ rfl kR kR Tryz.underlying205 rfl kR _ kR kL)<|sS (fv (vR y1 8%M)) (qF 173 #[.agg (modc M lw),.agg (rw8 y1)] (λw=>foldZ w M lw hlw hM0 hM hnorm y1 hh1.1))<|sW 3 g3 98 (fcs 0) (fcs (vR y1 8%M)) (wS 0 98 (fcs (vR y1 8%M)) rfl) ?_
  refine sG<|Sy.ret ?_
  rw [show (fv (x*y%M):Value)=fv (vR y1 8%M) from by rw [hh1.2.1,wd4 hx,wd4 hy]]
  exact rC (v:=fv (vR y1 8%M)) 98 g3 3 (fcs (vR y1 8%M)) rfl Tryz.underlying98
 ·have lb1:k1<4:=of_decide_eq_true hb1.symm
  refine sT<|Sy.skip<|Sy.then_<|Sy.seq<|Sy.block<|sC ?_
  refine sP (.int .u64 0) ?_
  refine sG<|Sy.seq<|sC ?_
  refine sP (.int .i64 0) ?_
  refine sG<|Sy.block ?_
  refine Sy.loopX (T:=(Nat→Nat)×Nat) 4 (λk2 y2=>[(3,.pointer (some ⟨g0,0,none⟩)),(4,.pointer (some ⟨g1,0,none⟩)),(5,.pointer (some ⟨g2,0,none⟩)),(6,.pointer (some ⟨g3,0,none⟩)),(7,.pointer (some ⟨g4,0,none⟩)),(8,.int .i64 ((k1:Nat):Int)),(9,.int .u64 ((y2.2:Nat):Int)),(10,.int .i64 ((k2:Nat):Int))]) (λk2 y2=>[(g0,102,(modc M lw)),(g1,98,(fcs x)),(g2,98,(fcs y)),(g3,98,(fcs 0)),(g4,205,(rw8 y2.1))]) (λk2 y2=>(∀ t,y2.1 t<18446744073709551616)∧y2.2<18446744073709551616∧vR y2.1 8+y2.2*18446744073709551616 ^ (k1+k2)=vR y1 8+wd x k1*vR (wd y) k2*18446744073709551616 ^ k1∧∀ t,k1+4≤t→y2.1 t=0) (y1,0) [true,true,true,true,true] (⟨hh1.1,by show (0:Nat)<18446744073709551616; decide,by show vR y1 8+0*_=_+_*0*_; omega,hh1.2.2⟩) ac8 kR (λk2 y2 hk2 hh2=>?_)
  refine Sy.seq<|sC ?_
  refine sP (.int .i64 ((k2:Nat):Int)) ?_
  obtain ⟨b2,hb2⟩:∃ z:Bool,z=decide (k2<4):=⟨_,rfl⟩
  refine sS (.bool b2) (Quiet.pure (AC .lss _ _ _ .i64 _ _ _ rfl rfl rfl (AY _ _ _ _ _ (by rw [hb2]; exact decide_eq_decide.2 (by omega))))) ?_
  refine sG ?_
  cases b2
  ·have lb2:¬ (k2<4):=of_decide_eq_false hb2.symm
   refine sU<|Sy.exit<|Sy.then_exit<|Sy.then_exit ?_
   obtain rfl:k2=4:=by omega
   refine Sy.in_exit<|Sy.then_<|Sy.region ?_
   refine sP (.int .i64 ((k1:Nat):Int))<|sS (.int .i64 ((k1+4:Nat):Int)) (Quiet.pure (AC .add _ _ _ .i64 _ _ _ rfl rfl rfl (AO _ _ _ _ _ ((AH (by omega) (by omega)).trans (by omega)))))<|sP (.int .u64 ((y2.2:Nat):Int))<|sS (.pointer (some ⟨g4,0+(k1+4)*1,none⟩)) (Quiet.pure (Aq 205 _ _ _ g4 0 _ (k1+4) 1 .i64 rfl rfl rfl Tryz.underlying205 kF (by omega))) ?_
   refine Sy.write kR 4 g4 205 (rw8 y2.1) (rw8 (upd y2.1 (k1+4) y2.2)) kR (Writes.one (0+(k1+4)*1) 44 (.int .u64 ((y2.2:Nat):Int)) _ _ rfl kR kR kR rfl rfl (DV _ (k:=k1+4) (by omega) (by omega)) (DU _ _ (by omega) (by omega))) ?_
   refine Sy.nil<|Sy.in_<|Sy.then_<|Sy.region ?_
   refine sP (.int .i64 ((k1:Nat):Int))<|sS (.int .i64 ((k1+1:Nat):Int)) (Quiet.pure (AC .add _ _ _ .i64 _ _ _ rfl rfl rfl (AO _ _ _ _ _ ((AH (by omega) (by omega)).trans (by omega)))))<|sP (.int .i64 ((k1+1:Nat):Int)) ?_
   refine Sy.nil ?_
   have hq:=Nw hh1.2.1 hh2.2.2.1 (hh2.2.2.2 _ (Nat.le_refl _)) (by omega)
   exact Sy.againX (upd y2.1 (k1+4) y2.2) [true,true,true,true,true] (by omega) (⟨E1 hh2.1 hh2.2.1,hq,λt ht=>(II (by omega)).trans (hh2.2.2.2 t (by omega))⟩) ac6 kR
  ·have lb2:k2<4:=of_decide_eq_true hb2.symm
   refine sT<|Sy.skip<|Sy.then_<|Sy.seq<|Sy.block<|Sy.seq ?_
   refine Sy.regionD (λj=>false) kR ?_
   refine sZ 0 rfl (.int .i64 ((k1:Nat):Int))<|sD 1 rfl (.pointer (some ⟨g1,0+k1*1,none⟩)) (Quiet.pure (Aq 98 _ _ _ g1 0 _ k1 1 .i64 rfl rfl rfl Tryz.underlying98 kF (by omega)))<|sD 2 rfl (.int .u64 ((wd x k1:Nat):Int)) (Quiet.cell 1 g1 (0+k1*1) 98 44 (fcs x) _ _ rfl kR kR Tryz.underlying44 rfl _ (Gq x (k:=k1) (by omega) (by omega)))<|sZ 3 rfl (.int .i64 ((k2:Nat):Int))<|sD 4 rfl (.pointer (some ⟨g2,0+k2*1,none⟩)) (Quiet.pure (Aq 98 _ _ _ g2 0 _ k2 1 .i64 rfl rfl rfl Tryz.underlying98 kF (by omega)))<|sD 5 rfl (.int .u64 ((wd y k2:Nat):Int)) (Quiet.cell 2 g2 (0+k2*1) 98 44 (fcs y) _ _ rfl kR kR Tryz.underlying44 rfl _ (Gq y (k:=k2) (by omega) (by omega))) ?_
   obtain ⟨hi1,lo1,llo1,elo1⟩:=He (wd x k1) (wd y k2)
   refine sD 6 rfl (.tuple #[.int .u64 ((hi1:Nat):Int),.int .u64 ((lo1:Nat):Int)]) (qF 171 #[.int .u64 ((wd x k1:Nat):Int),.int .u64 ((wd y k2:Nat):Int)] (λw=>Jg w (wd x k1) (wd y k2) hi1 lo1 (by first | assumption | exact wd_lt _ _ | exact hh1.1 _ | exact hh2.1 _ | exact hh2.2.1 | decide) (by first | assumption | exact wd_lt _ _ | exact hh1.1 _ | exact hh2.1 _ | exact hh2.2.1 | decide) llo1 elo1))<|sZ 7 rfl (.tuple #[.int .u64 ((hi1:Nat):Int),.int .u64 ((lo1:Nat):Int)])<|sZ 8 rfl (.int .u64 ((hi1:Nat):Int))<|sZ 9 rfl (.int .u64 ((lo1:Nat):Int))<|sZ 10 rfl (.int .u64 ((hi1:Nat):Int))<|sZ 11 rfl (.int .u64 ((lo1:Nat):Int)) ?_
   refine sE ?_
   refine sB ?_
   refine sP (.int .u64 ((lo1:Nat):Int))<|sP (.int .i64 ((k1:Nat):Int))<|sP (.int .i64 ((k2:Nat):Int))<|sS (.int .i64 ((k1+k2:Nat):Int)) (Quiet.pure (AC .add _ _ _ .i64 _ _ _ rfl rfl rfl (AO _ _ _ _ _ ((AH (by omega) (by omega)).trans (by omega)))))<|sS (.pointer (some ⟨g4,0+(k1+k2)*1,none⟩)) (Quiet.pure (Aq 205 _ _ _ g4 0 _ (k1+k2) 1 .i64 rfl rfl rfl Tryz.underlying205 kF (by omega)))<|sS (.int .u64 ((y2.1 (k1+k2):Nat):Int)) (Quiet.cell 4 g4 (0+(k1+k2)*1) 205 44 (rw8 y2.1) _ _ rfl kR kR Tryz.underlying44 rfl _ (E5 y2.1 (k:=k1+k2) (by omega) (by omega))) ?_
   obtain ⟨x1,c1,lx1,lc1,ex1,rx1⟩:=CO (lo1) (y2.1 (k1+k2)) (by first | assumption | exact wd_lt _ _ | exact hh1.1 _ | exact hh2.1 _ | exact hh2.2.1 | decide) (by first | assumption | exact wd_lt _ _ | exact hh1.1 _ | exact hh2.1 _ | exact hh2.2.1 | decide)
   refine sS (.tuple #[.int .u64 ((x1:Nat):Int),.int .u64 ((c1:Nat):Int)]) (Quiet.pure (λw=>Eq.trans kR (rx1 w)))<|sP (.tuple #[.int .u64 ((x1:Nat):Int),.int .u64 ((c1:Nat):Int)])<|sP (.int .u64 ((x1:Nat):Int))<|sP (.int .u64 ((c1:Nat):Int))<|sP (.int .u64 ((x1:Nat):Int))<|sP (.int .u64 ((c1:Nat):Int)) ?_
   refine sA ?_
   refine sP (.int .u64 ((x1:Nat):Int))<|sP (.int .u64 ((y2.2:Nat):Int)) ?_
   obtain ⟨x2,c2,lx2,lc2,ex2,rx2⟩:=CO (x1) (y2.2) (by first | assumption | exact wd_lt _ _ | exact hh1.1 _ | exact hh2.1 _ | exact hh2.2.1 | decide) (by first | assumption | exact wd_lt _ _ | exact hh1.1 _ | exact hh2.1 _ | exact hh2.2.1 | decide)
   refine sS (.tuple #[.int .u64 ((x2:Nat):Int),.int .u64 ((c2:Nat):Int)]) (Quiet.pure (λw=>Eq.trans kR (rx2 w)))<|sP (.tuple #[.int .u64 ((x2:Nat):Int),.int .u64 ((c2:Nat):Int)])<|sP (.int .u64 ((x2:Nat):Int))<|sP (.int .u64 ((c2:Nat):Int))<|sP (.int .u64 ((x2:Nat):Int))<|sP (.int .u64 ((c2:Nat):Int)) ?_
   refine sA ?_
   refine sP (.int .i64 ((k1:Nat):Int))<|sP (.int .i64 ((k2:Nat):Int))<|sS (.int .i64 ((k1+k2:Nat):Int)) (Quiet.pure (AC .add _ _ _ .i64 _ _ _ rfl rfl rfl (AO _ _ _ _ _ ((AH (by omega) (by omega)).trans (by omega)))))<|sP (.int .u64 ((x2:Nat):Int))<|sS (.pointer (some ⟨g4,0+(k1+k2)*1,none⟩)) (Quiet.pure (Aq 205 _ _ _ g4 0 _ (k1+k2) 1 .i64 rfl rfl rfl Tryz.underlying205 kF (by omega))) ?_
   refine Sy.write kR 4 g4 205 (rw8 y2.1) (rw8 (upd y2.1 (k1+k2) x2)) kR (Writes.one (0+(k1+k2)*1) 44 (.int .u64 ((x2:Nat):Int)) _ _ rfl kR kR kR rfl rfl (DV _ (k:=k1+k2) (by omega) (by omega)) (DU _ _ (by omega) (by omega))) ?_
   refine sG<|Sy.region ?_
   refine sP (.int .u64 ((hi1:Nat):Int))<|sP (.int .u64 ((c1:Nat):Int)) ?_
   have hst:=QK elo1 ex1 ex2
   have hcar:=Oa hst (by first | assumption | exact wd_lt _ _ | exact hh1.1 _ | exact hh2.1 _ | exact hh2.2.1 | decide) (by first | assumption | exact wd_lt _ _ | exact hh1.1 _ | exact hh2.1 _ | exact hh2.2.1 | decide) (by first | assumption | exact wd_lt _ _ | exact hh1.1 _ | exact hh2.1 _ | exact hh2.2.1 | decide) hh2.2.1
   refine sS (.int .u64 ((hi1+c1:Nat):Int)) (Quiet.pure (AC .add _ _ _ .u64 _ _ _ rfl rfl rfl (AO _ _ _ _ _ ((wrap_u64 (by omega) (by omega)).trans (by omega)))))<|sP (.int .u64 ((c2:Nat):Int))<|sS (.int .u64 (((hi1+c1)+c2:Nat):Int)) (Quiet.pure (AC .add _ _ _ .u64 _ _ _ rfl rfl rfl (AO _ _ _ _ _ ((wrap_u64 (by omega) (by omega)).trans (by omega)))))<|sP (.int .u64 (((hi1+c1)+c2:Nat):Int)) ?_
   refine Sy.nil<|Sy.in_<|Sy.then_<|Sy.region ?_
   refine sP (.int .i64 ((k2:Nat):Int))<|sS (.int .i64 ((k2+1:Nat):Int)) (Quiet.pure (AC .add _ _ _ .i64 _ _ _ rfl rfl rfl (AO _ _ _ _ _ ((AH (by omega) (by omega)).trans (by omega)))))<|sP (.int .i64 ((k2+1:Nat):Int)) ?_
   refine Sy.nil ?_
   have hin:=K3 (E0 y2.1 (k1+k2) x2 8 (by omega)) hh2.2.2.1 hst (P0:=18446744073709551616 ^ k2) (by rw [Nat.add_comm,Nat.pow_add])
   exact Sy.againX ((upd y2.1 (k1+k2) x2,hi1+c1+c2)) [true,true,true,true,true] (by omega) (⟨E1 hh2.1 lx2,hcar,by rw [← Nat.add_assoc,Nat.pow_succ]; exact hin,λt ht=>(II (by omega)).trans (hh2.2.2.2 t ht)⟩) ac8 kR
end Fz
end
section
section
open Go.RowKit Go.Lib
theorem mulR_any (w:World) (x y:Nat) (hx:x<(2^256)) (hy:y<(2^256)):Calls Tryz.prog 115 #[.agg #[.int .u64 18446744069414583343,.int .u64 18446744073709551615,.int .u64 18446744073709551615,.int .u64 18446744073709551615,.int .u64 4294968273,.int .u64 0,.int .u64 0],fv x,fv y] w λe w'=>e=.returned (fv (mulP x y))∧Below w.heap.size w w':=by
 have h:=Fz.mulZ w pM DF Cv DZ Ct (λw x hx=>by rw [Bw]; exact normR_any w x hx) x y hx hy
 rw [Bw] at h
 exact h
end
end
section
namespace Fz
open Go.RowKit Go.Lib Sy
def msk (j:Nat):Nat:=9223372036854775808 / 2 ^ j
theorem Jh (j:Nat):msk j / 2=msk (j+1):=by unfold msk; rw [Nat.div_div_eq_div_mul, ← Nat.pow_succ]
theorem K0 {j:Nat} (h:j≤63):msk j=2 ^ (63 - j):=by
 unfold msk
 have e:(9223372036854775808:Nat)=2 ^ (63 - j)*2 ^ j:=by rw [← Nat.pow_add,show 63 - j+j=63 by omega]
 rw [e]
 exact Nat.mul_div_cancel _ (Nat.two_pow_pos j)
theorem Pb {j:Nat} (h:j<64):0<msk j:=by rw [K0 (by omega)]; exact Nat.two_pow_pos _
theorem Pc:msk 64=0:=by decide
theorem Kz (j:Nat):msk j<18446744073709551616:=Nat.lt_of_le_of_lt (Nat.div_le_self _ _) (by decide)
theorem M3 (a r s:Nat) (hs:s≤63):(a+18446744073709551616*r) / 2 ^ s%2=a / 2 ^ s%2:=by
 obtain ⟨u,hu⟩:∃ u,2 ^ s*(2*u)=18446744073709551616:=by
  refine ⟨2 ^ (63 - s),?_⟩
  have:2 ^ s*2 ^ (63 - s)=2 ^ 63:=by rw [← Nat.pow_add]; congr 1; omega
  rw [show (2:Nat)*2 ^ (63 - s)=2 ^ (63 - s)*2 from Nat.mul_comm _ _, ← Nat.mul_assoc,this]
 rw [← hu,Nat.mul_assoc,Nat.add_mul_div_left _ _ (Nat.two_pow_pos s),Nat.mul_assoc,Nat.add_mul_mod_self_left]
theorem Ku (e i s w r:Nat) (hz:e / 2 ^ (64*i)=w+18446744073709551616*r) (hs:s≤63):e / 2 ^ (64*i+s)=2*(e / 2 ^ (64*i+(s+1)))+w / 2 ^ s%2:=by
 have h1:e / 2 ^ (64*i+s)%2=w / 2 ^ s%2:=by
  rw [Nat.pow_add, ← Nat.div_div_eq_div_mul,hz,M3 w r s hs]
 have h2:e / 2 ^ (64*i+(s+1))=e / 2 ^ (64*i+s) / 2:=by
  rw [← Nat.add_assoc,Nat.pow_succ,Nat.div_div_eq_div_mul]
 rw [h2, ← h1]
 omega
theorem JF (e i s:Nat) (hs:s≤63):e / 2 ^ (64*i+s)=2*(e / 2 ^ (64*i+(s+1)))+wd e i / 2 ^ s%2 :=
 Ku e i s (wd e i) (e / 18446744073709551616 ^ i / 18446744073709551616) (by
  unfold wd
  rw [Nat.mod_add_div,Nat.pow_mul]) hs
theorem KJ (a s:Nat):a &&& 2 ^ s=0↔a / 2 ^ s%2=0:=by
 have hb:a.testBit s=decide (a / 2 ^ s%2=1):=Nat.testBit_eq_decide_div_mod_eq
 constructor
 ·intro h
  have h2:(a &&& 2 ^ s).testBit s=false:=by rw [h]; simp
  rw [Nat.testBit_and,Nat.testBit_two_pow_self,Bool.and_true,hb] at h2
  have h3:¬ a / 2 ^ s%2=1:=by simpa using h2
  omega
 ·intro h
  have h2:a.testBit s=false:=by rw [hb]; simp; omega
  refine Nat.eq_of_testBit_eq λj=>?_
  rw [Nat.testBit_and,Nat.zero_testBit,Nat.testBit_two_pow]
  by_cases hj:s=j
  ·subst hj; simp [h2]
  ·simp [hj]
theorem QD (a b:Nat) (ha:a<18446744073709551616) (hb:b<18446744073709551616):IntKind.u64.wrap ((BitVec.ofInt IntKind.u64.bits (a:Int) &&& BitVec.ofInt IntKind.u64.bits (b:Int)).toNat:Int)=((a &&& b:Nat):Int):=by
 have hl:a &&& b<18446744073709551616:=Nat.lt_of_le_of_lt Nat.and_le_left ha
 have hw2:(BitVec.ofInt 64 (a:Int) &&& BitVec.ofInt 64 (b:Int)).toNat=a &&& b:=by
  rw [BitVec.toNat_and]
  simp only [BitVec.ofInt_natCast,BitVec.toNat_ofNat]
  rw [Nat.mod_eq_of_lt (by omega),Nat.mod_eq_of_lt (by omega)]
 show IntKind.u64.wrap ((BitVec.ofInt 64 (a:Int) &&& BitVec.ofInt 64 (b:Int)).toNat:Int)=_
 rw [hw2,wrap_u64 (by omega) (by omega)]
theorem R9 (a:Nat) (ha:a<18446744073709551616):IntKind.u64.wrap ((a:Int).tdiv 2)=((a / 2:Nat):Int):=by
 have e:(a:Int).tdiv 2=((a / 2:Nat):Int):=rfl
 rw [e,wrap_u64 (by omega) (by omega)]
def pz (M x e i s:Nat):Nat:=x ^ (e / 2 ^ (64*i+s))%M
theorem PG {M x e i j:Nat} (hj:j<64) (h:wd e i / 2 ^ (63 - j)%2=0):pz M x e i (64 - j)*pz M x e i (64 - j)%M=pz M x e i (64 - (j+1)):=by
 have q:=JF e i (63 - j) (by omega)
 rw [h,Nat.add_zero,show 63 - j+1=64 - j by omega] at q
 unfold pz
 rw [show 64 - (j+1)=63 - j by omega,q, ← Nat.mul_mod, ← Nat.pow_add,Nat.two_mul]
theorem Qv {M x e i j:Nat} (hj:j<64) (h:¬ wd e i / 2 ^ (63 - j)%2=0):pz M x e i (64 - j)*pz M x e i (64 - j)%M*x%M=pz M x e i (64 - (j+1)):=by
 have q:=JF e i (63 - j) (by omega)
 rw [show wd e i / 2 ^ (63 - j)%2=1 by omega,show 63 - j+1=64 - j by omega] at q
 unfold pz
 rw [show 64 - (j+1)=63 - j by omega,q, ← Nat.mul_mod, ← Nat.pow_add,Nat.mod_mul_mod, ← Nat.pow_succ,Nat.two_mul]
theorem PE {M x e i:Nat}:pz M x e (i+1) 0=pz M x e i 64:=by unfold pz; rw [Nat.add_zero,Nat.mul_add,Nat.mul_one]
theorem Nl {M x e:Nat} (he:e<(2^256)) (hM:1<M):pz M x e 4 0=1:=by
 unfold pz
 rw [Nat.div_eq_of_lt (by rw [show 64*4+0=256 from rfl]; omega),Nat.pow_zero,Nat.mod_eq_of_lt hM]
theorem PF {M x e:Nat}:pz M x e 0 0=x ^ e%M:=by
 unfold pz
 rw [show 64*0+0=0 from rfl,Nat.pow_zero,Nat.div_one]
set_option maxHeartbeats 4000000 in
set_option maxRecDepth 100000 in
theorem powZ (w:World) (M:Nat) (lw:Nat→Nat) (hlw:∀ t,lw t<18446744073709551616) (hM0:0<M) (hM1:1<M) (hM:M+vR lw 3=18446744073709551616 ^ 4) (hM4:M≤(2^256)) (hnorm:∀ w x,x<(2^256)→Calls Tryz.prog 59 #[.agg (modc M lw),fv x] w (Gets w (fv (x%M)))) (hsmall:∀ w,Calls Tryz.prog 123 #[.int .u64 1] w (Gets w (fv 1))) (x e:Nat) (hx:x<(2^256)) (he:e<(2^256)):Calls Tryz.prog 124 #[.agg (modc M lw),fv x,fv e] w (Gets w (fv (x ^ e%M))):=by
 refine Sy.enter (args:=[.agg (modc M lw),fv x,fv e]) Tryz.func124 rfl kL ?_
 refine sC ?_
 refine sM 102 (modc M lw) (λg0=>?_)
 refine sM 98 (fcs x) (λg1=>?_)
 refine sM 98 (fcs e) (λg2=>?_)
 refine sM 98 (fcs 0) (λg3=>?_)
 refine sA ?_
 refine sS (fv 1) (qF 123 #[.int .u64 1] (λw=>hsmall w)) ?_
 refine sM 98 (fcs 0) (λg4=>?_)
 refine sW 4 g4 98 (fcs 0) (fcs 1) (wS 0 98 (fcs 1) rfl) ?_
 refine sG<|Sy.seq<|sC ?_
 refine sP (.int .i64 3) ?_
 refine sG<|Sy.block ?_
 refine Sy.loopX (T:=Int×Nat) 4 (λk1 y1=>[(3,.pointer (some ⟨g0,0,none⟩)),(4,.pointer (some ⟨g1,0,none⟩)),(5,.pointer (some ⟨g2,0,none⟩)),(6,.pointer (some ⟨g3,0,none⟩)),(7,.pointer (some ⟨g4,0,none⟩)),(8,.int .i64 y1.1)]) (λk1 y1=>[(g0,102,(modc M lw)),(g1,98,(fcs x)),(g2,98,(fcs e)),(g3,98,(fcs 0)),(g4,98,(fcs y1.2))]) (λk1 y1=>y1.1=3 - ((k1:Nat):Int)∧y1.2=pz M x e (4 - k1) 0) ((3:Int),1) [true,true,true,true,true] (⟨rfl,(Nl he hM1).symm⟩) ac6 kR (λk1 y1 hk1 hh1=>?_)
 refine Sy.seq<|sC ?_
 refine sP (.int .i64 y1.1) ?_
 obtain ⟨b1,hb1⟩:∃ z:Bool,z=decide (y1.1 ≥ 0):=⟨_,rfl⟩
 refine sS (.bool b1) (Quiet.pure (AC .geq _ _ _ .i64 _ _ _ rfl rfl rfl (D' _ _ _ _ _ hb1.symm))) ?_
 refine sG ?_
 cases b1
 ·have lb1:¬ (y1.1 ≥ 0):=of_decide_eq_false hb1.symm
  refine sU<|Sy.exit<|Sy.then_exit<|Sy.then_exit ?_
  obtain rfl:k1=4:=by omega
  refine Sy.in_exit<|sB ?_
  refine sS (fv y1.2) (qL 4 g4 0 4 98 98 (fcs y1.2) rfl Tryz.underlying98)<|sW 3 g3 98 (fcs 0) (fcs y1.2) (wS 0 98 (fcs y1.2) rfl) ?_
  refine sG<|Sy.ret ?_
  rw [show (fv (x ^ e%M):Value)=fv y1.2 from by rw [hh1.2,show 4 - 4=0 from rfl,PF]]
  exact rC (v:=fv y1.2) 98 g3 3 (fcs y1.2) rfl Tryz.underlying98
 ·have lb1:y1.1 ≥ 0:=of_decide_eq_true hb1.symm
  have hq0:=hh1.1
  obtain ⟨q1,hq1⟩:∃ q:Nat,y1.1=(q:Int):=⟨y1.1.toNat,by omega⟩
  have hqk:q1+k1=3:=by omega
  refine sT<|Sy.skip<|Sy.then_<|Sy.seq<|Sy.block<|sC ?_
  refine sP (.int .u64 9223372036854775808) ?_
  refine sG<|Sy.block ?_
  refine Sy.loopX (T:=Nat×Nat) 64 (λk2 y2=>[(3,.pointer (some ⟨g0,0,none⟩)),(4,.pointer (some ⟨g1,0,none⟩)),(5,.pointer (some ⟨g2,0,none⟩)),(6,.pointer (some ⟨g3,0,none⟩)),(7,.pointer (some ⟨g4,0,none⟩)),(8,.int .i64 y1.1),(9,.int .u64 ((y2.1:Nat):Int))]) (λk2 y2=>[(g0,102,(modc M lw)),(g1,98,(fcs x)),(g2,98,(fcs e)),(g3,98,(fcs 0)),(g4,98,(fcs y2.2))]) (λk2 y2=>y2.1=msk k2∧y2.2=pz M x e q1 (64 - k2)) (9223372036854775808,y1.2) [true,true,true,true,true] (⟨rfl,by show y1.2=_; rw [hh1.2,show 4 - k1=q1+1 by omega]; exact PE⟩) ac7 kR (λk2 y2 hk2 hh2=>?_)
  refine Sy.seq<|sC ?_
  refine sP (.int .u64 ((y2.1:Nat):Int)) ?_
  obtain ⟨b2,hb2⟩:∃ z:Bool,z=decide (y2.1>0):=⟨_,rfl⟩
  refine sS (.bool b2) (Quiet.pure (AC .gtr _ _ _ .u64 _ _ _ rfl rfl rfl (CL _ _ _ _ _ (by rw [hb2]; exact decide_eq_decide.2 (by omega))))) ?_
  refine sG ?_
  cases b2
  ·have lb2:¬ (y2.1>0):=of_decide_eq_false hb2.symm
   have hk64:¬ k2<64:=λh=>by have:=Pb h; have:=hh2.1; omega
   refine sU<|Sy.exit<|Sy.then_exit<|Sy.then_exit ?_
   obtain rfl:k2=64:=by omega
   refine Sy.in_exit<|Sy.in_<|Sy.then_<|Sy.region ?_
   refine sP (.int .i64 y1.1)<|sS (.int .i64 (y1.1 - 1)) (Quiet.pure (AC .sub _ _ _ .i64 _ _ _ rfl rfl rfl (D_ _ _ _ _ _ (AH (by omega) (by omega)))))<|sP (.int .i64 (y1.1 - 1)) ?_
   refine Sy.nil ?_
   have hq:=hh1.1
   exact Sy.againX ((y1.1 - 1,y2.2)) [true,true,true,true,true] (by have:=hh1.1; omega) (⟨by show y1.1 - 1=_; omega,by show y2.2=_; rw [hh2.2,show 4 - (k1+1)=q1 by omega,show 64 - 64=0 from rfl]⟩) ac6 kR
  ·have lb2:y2.1>0:=of_decide_eq_true hb2.symm
   have hk64:k2<64:=by
    rcases Nat.lt_or_ge k2 64 with h | h
    ·exact h
    ·have e:k2=64:=by omega
     have:=hh2.1
     rw [e,Pc] at this
     omega
   refine sT<|Sy.skip<|Sy.then_<|Sy.seq<|Sy.block<|sC ?_
   refine sS (.agg (modc M lw)) (qL 0 g0 0 7 102 102 (modc M lw) rfl Tryz.underlying102)<|sS (fv y2.2) (qL 4 g4 0 4 98 98 (fcs y2.2) rfl Tryz.underlying98)<|sS (fv y2.2) (qL 4 g4 0 4 98 98 (fcs y2.2) rfl Tryz.underlying98)<|sS (fv (y2.2*y2.2%M)) (qF 115 #[.agg (modc M lw),fv y2.2,fv y2.2] (λw=>mulZ w M lw hlw hM0 hM hnorm (y2.2) (y2.2) (by first | assumption | exact Nat.lt_of_lt_of_le (Nat.mod_lt _ hM0) hM4 | (rw [hh2.2]; exact Nat.lt_of_lt_of_le (Nat.mod_lt _ hM0) hM4)) (by first | assumption | exact Nat.lt_of_lt_of_le (Nat.mod_lt _ hM0) hM4 | (rw [hh2.2]; exact Nat.lt_of_lt_of_le (Nat.mod_lt _ hM0) hM4))))<|sW 4 g4 98 (fcs y2.2) (fcs (y2.2*y2.2%M)) (wS 0 98 (fcs (y2.2*y2.2%M)) rfl) ?_
   refine sA ?_
   refine sP (.int .i64 y1.1)<|sS (.pointer (some ⟨g2,0+q1*1,none⟩)) (Quiet.pure (Aq 98 _ _ _ g2 0 _ q1 1 .i64 rfl rfl (show Value.int .i64 y1.1=.int .i64 ((q1:Nat):Int) from by rw [hq1]) Tryz.underlying98 kF (by omega)))<|sS (.int .u64 ((wd e q1:Nat):Int)) (Quiet.cell 2 g2 (0+q1*1) 98 44 (fcs e) _ _ rfl kR kR Tryz.underlying44 rfl _ (Gq e (k:=q1) (by omega) (by omega)))<|sP (.int .u64 ((y2.1:Nat):Int))<|sS (.int .u64 (((wd e q1) &&& y2.1:Nat):Int)) (Quiet.pure (AC .and _ _ _ .u64 _ _ _ rfl rfl rfl (Iw _ _ _ _ _ (QD _ _ (wd_lt _ _) (by rw [hh2.1]; exact Kz _))))) ?_
   obtain ⟨b3,hb3⟩:∃ z:Bool,z=decide ((wd e q1) &&& y2.1≠0):=⟨_,rfl⟩
   refine sS (.bool b3) (Quiet.pure (AC .neq _ _ _ .u64 _ _ _ rfl rfl rfl (Bl _ _ _ _ _ (by rw [hb3]; exact decide_eq_decide.2 (by omega))))) ?_
   refine sG ?_
   cases b3
   ·have lb3:¬ ((wd e q1) &&& y2.1≠0):=of_decide_eq_false hb3.symm
    have hbit:y2.1=2 ^ (63 - k2):=hh2.1.trans (K0 (by omega))
    have hpw:y2.2*y2.2%M=pz M x e q1 (64 - (k2+1)):=by rw [hh2.2]; exact PG hk64 ((KJ _ _).1 (by have:=lb3; rw [hbit] at this; omega))
    refine sU<|Sy.skip<|Sy.in_<|Sy.then_<|Sy.region ?_
    refine sP (.int .u64 ((y2.1:Nat):Int))<|sS (.int .u64 ((y2.1 / 2:Nat):Int)) (Quiet.pure (AC .quo _ _ _ .u64 _ _ _ rfl rfl rfl (CY _ _ _ _ _ (by decide) (R9 _ (by rw [hh2.1]; exact Kz _)))))<|sP (.int .u64 ((y2.1 / 2:Nat):Int)) ?_
    refine Sy.nil ?_
    have hpz:=hpw
    exact Sy.againX ((y2.1 / 2,(y2.2*y2.2%M))) [true,true,true,true,true] (hk64) (⟨by show y2.1 / 2=_; rw [hh2.1]; exact Jh _,by show _=_; exact hpz⟩) ac7 kR
   ·have lb3:(wd e q1) &&& y2.1≠0:=of_decide_eq_true hb3.symm
    have hbit:y2.1=2 ^ (63 - k2):=hh2.1.trans (K0 (by omega))
    have hpw:y2.2*y2.2%M*x%M=pz M x e q1 (64 - (k2+1)):=by rw [hh2.2]; exact Qv hk64 (λh=>lb3 (by rw [hbit]; exact (KJ _ _).2 h))
    refine sT<|Sy.region ?_
    refine sS (.agg (modc M lw)) (qL 0 g0 0 7 102 102 (modc M lw) rfl Tryz.underlying102)<|sS (fv (y2.2*y2.2%M)) (qL 4 g4 0 4 98 98 (fcs (y2.2*y2.2%M)) rfl Tryz.underlying98)<|sS (fv x) (qL 1 g1 0 4 98 98 (fcs x) rfl Tryz.underlying98)<|sS (fv ((y2.2*y2.2%M)*x%M)) (qF 115 #[.agg (modc M lw),fv (y2.2*y2.2%M),fv x] (λw=>mulZ w M lw hlw hM0 hM hnorm ((y2.2*y2.2%M)) (x) (by first | assumption | exact Nat.lt_of_lt_of_le (Nat.mod_lt _ hM0) hM4 | (rw [hh2.2]; exact Nat.lt_of_lt_of_le (Nat.mod_lt _ hM0) hM4)) (by first | assumption | exact Nat.lt_of_lt_of_le (Nat.mod_lt _ hM0) hM4 | (rw [hh2.2]; exact Nat.lt_of_lt_of_le (Nat.mod_lt _ hM0) hM4))))<|sW 4 g4 98 (fcs (y2.2*y2.2%M)) (fcs ((y2.2*y2.2%M)*x%M)) (wS 0 98 (fcs ((y2.2*y2.2%M)*x%M)) rfl) ?_
    refine Sy.nil<|Sy.in_<|Sy.then_<|Sy.region ?_
    refine sP (.int .u64 ((y2.1:Nat):Int))<|sS (.int .u64 ((y2.1 / 2:Nat):Int)) (Quiet.pure (AC .quo _ _ _ .u64 _ _ _ rfl rfl rfl (CY _ _ _ _ _ (by decide) (R9 _ (by rw [hh2.1]; exact Kz _)))))<|sP (.int .u64 ((y2.1 / 2:Nat):Int)) ?_
    refine Sy.nil ?_
    have hpz:=hpw
    exact Sy.againX ((y2.1 / 2,((y2.2*y2.2%M)*x%M))) [true,true,true,true,true] (hk64) (⟨by show y2.1 / 2=_; rw [hh2.1]; exact Jh _,by show _=_; exact hpz⟩) ac7 kR
end Fz
end
section
section
open Go.RowKit Go.Lib
def pw (x e:Nat):Nat:=x ^ e%pM
theorem Dn (w:World) (n:Nat) (di:Int) (hdi:di=(n:Int)) (hn:n<18446744073709551616):Calls Tryz.prog 123 #[.int .u64 di] w λe w'=>e=.returned (fv n)∧Below w.heap.size w w':=by
 subst hdi
 rw [Dw n hn]
 go_enter Tryz.func123,Tryz.ntmps123
 go_wp2
 exact bodyPost_ret (results_cell_row rfl _ _ w.heap.size _ _ (0,0) _ rfl (heap_alloc_new w _) Tryz.underlying98 rfl (by kernel_rfl)) rfl ⟨rfl,(Below.refl _ _).alloc (Nat.le_refl _) _⟩
theorem E8 (w:World) (x e:Nat) (hx:x<(2^256)) (he:e<(2^256)):Calls Tryz.prog 124 #[.agg #[.int .u64 18446744069414583343,.int .u64 18446744073709551615,.int .u64 18446744073709551615,.int .u64 18446744073709551615,.int .u64 4294968273,.int .u64 0,.int .u64 0],fv x,fv e] w λee w'=>ee=.returned (fv (pw x e))∧Below w.heap.size w w':=by
 have h:=Fz.powZ w pM DF Cv DZ (by decide +kernel) Ct (by decide +kernel) (λw x hx=>by rw [Bw]; exact normR_any w x hx) (λw=>Dn w 1 1 rfl (by decide)) x e hx he
 rw [Bw] at h
 exact h
set_option maxHeartbeats 2000000 in
set_option maxRecDepth 100000 in
theorem invRef_any (w:World) (x:Nat) (hx:x<(2^256)):Calls Tryz.prog 66 #[.agg #[.int .u64 18446744069414583343,.int .u64 18446744073709551615,.int .u64 18446744073709551615,.int .u64 18446744073709551615,.int .u64 4294968273,.int .u64 0,.int .u64 0],fv x] w λe w'=>e=.returned (fv (pw x (115792089237316195423570985008687907853269984665640564039457584007908834671663 - 2)))∧Below w.heap.size w w':=by
 obtain ⟨p,hp⟩:∃ p,p=115792089237316195423570985008687907853269984665640564039457584007908834671663:=⟨_,rfl⟩
 obtain ⟨n2,h2⟩:∃ n,n=2:=⟨_,rfl⟩
 obtain ⟨q,hq⟩:∃ q,q=115792089237316195423570985008687907853269984665640564039457584007908834671663 - 2:=⟨_,rfl⟩
 obtain ⟨z,hz⟩:∃ z,z=pw x q:=⟨_,rfl⟩
 rw [← hq, ← hz]
 have cS:∀ w,Calls Tryz.prog 123 #[.int .u64 2] w λe w'=>e=.returned (fv n2)∧Below w.heap.size w w':=λw=>Dn w n2 2 (by rw [h2]; rfl) (by omega)
 have cM:∀ w,Calls Tryz.prog 120 #[fv p,fv n2] w λe w'=>e=.returned (fv q)∧Below w.heap.size w w':=λw=>Cj w p n2 q 0 rfl rfl (by omega) (by omega) (by omega) (by omega)
 have cP:∀ w,Calls Tryz.prog 124 #[.agg #[.int .u64 18446744069414583343,.int .u64 18446744073709551615,.int .u64 18446744073709551615,.int .u64 18446744073709551615,.int .u64 4294968273,.int .u64 0,.int .u64 0],fv x,fv q] w λe w'=>e=.returned (fv z)∧Below w.heap.size w w':=by
  intro w; rw [hz]; exact E8 w x q hx (by omega)
 have FP:Hid (fv p=.agg #[.int .u64 18446744069414583343,.int .u64 18446744073709551615,.int .u64 18446744073709551615,.int .u64 18446744073709551615]):=Lib.hid (by rw [hp]; exact Jq)
 obtain ⟨x0,x1,x2,x3,fx⟩:=AZ x hx
 have FX:=Lib.hid fx
 rw [fx]
 clear fx hx hp h2 hq hz
 go_enter Tryz.func66,Tryz.ntmps66
 go_wp2
 refine wp_region_G (λj=>j == 7) (by kernel_rfl) ?_
 try simp only [Act.put]
 refine tkw 0 rfl (YieldsG.load (by rfl) _ _ rfl w.heap.size 0 rfl ([.int .u64 18446744069414583343,.int .u64 18446744073709551615,.int .u64 18446744073709551615,.int .u64 18446744073709551615,.int .u64 4294968273,.int .u64 0,.int .u64 0]) _ (Blk.lt (((Blk.new w _ _).alloc _).alloc _)) (Blk.range (((Blk.new w _ _).alloc _).alloc _)) Tryz.underlying102 rfl (by kernel_rfl)) ?_
 try simp only [Act.put,aA,aZ,aS]
 refine tkw 1 rfl (YieldsG.loadF (by rfl) _ _ rfl (w.heap.size+1) rfl (x) _ _ ((Aa w _ _ _).alloc _) (FX.out) Tryz.underlying98 rfl (by kernel_rfl)) ?_
 try simp only [Act.put,aA,aZ,aS]
 refine tk 2 rfl ?_
 try simp only [Act.put,aA,aZ,aS]
 refine tkw 3 rfl (YieldsG.loadP (by rfl) _ _ rfl w.heap.size rfl p _ (Blk.lt (((Blk.new w _ _).alloc _).alloc _)) (Bx (((Blk.new w _ _).alloc _).alloc _)) FP.out Tryz.underlying98 rfl (by kernel_rfl)) ?_
 try simp only [Act.put,aA,aZ,aS]
 refine tkw 4 rfl (YieldsG.call (v:=fv n2) (by rfl) 123 _ (λw9=>by go_simp; try (first | with_reducible rfl | rfl)) (λw9 h9=>cS w9)) ?_
 try simp only [Act.put,aA,aZ,aS]
 refine tkw 5 rfl (YieldsG.call (v:=fv q) (by rfl) 120 _ (λw9=>by go_simp; try (first | with_reducible rfl | rfl)) (λw9 h9=>cM w9)) ?_
 try simp only [Act.put,aA,aZ,aS]
 refine tkw 6 rfl (YieldsG.call (v:=fv z) (by rfl) 124 _ (λw9=>by go_simp; try (first | with_reducible rfl | rfl)) (λw9 h9=>cP w9)) ?_
 try simp only [Act.put,aA,aZ,aS]
 refine An 7 rfl (by kernel_rfl) (by rfl) _ _ _ rfl (w.heap.size+2) (fcs (z)) rfl rfl _ _ (Ah w _ _ _ _) (by kernel_rfl) (by rfl) (AG _) rfl (λw6 h6 w7 hB7 hL7=>?_)
 try simp only [Act.put]
 refine wpAnyG_done (by kernel_rfl) (λw8 h8=>?_)
 have hfin:=Gr.blk h8 hL7
 have hb9:=(Below.gr (AW w _ _ _) h6).trans ((hB7 _ (by omega)).trans (Below.mono h8 (by have:=hL7.lt; omega)))
 go_wp2
 exact bodyPost_ret (results_cell_row rfl _ _ (w.heap.size+2) _ _ (0,0) _ rfl hfin Tryz.underlying98 rfl (by kernel_rfl)) rfl ⟨rfl,hb9⟩
end
end
section
section
open Go.RowKit Go.Lib
def CQ (z j:Nat):UInt8:=UInt8.ofNat (z / 2 ^ (8*j)%256)
def E' (z:Nat):Nat→List UInt8
 | 0=>[]
 | k+1=>CQ z k::E' z k
theorem Du (z:Nat):∀ k,(E' z k).length=k
 | 0=>rfl
 | k+1=>by rw [E',List.length_cons,Du z k]
def Ae (z:Nat):List UInt8:=E' z 32
def Cq (z k:Nat):List UInt8:=List.replicate (32 - k) 0++E' z k
theorem Em (z k:Nat) (h:k≤32):(Cq z k).length=32:=by simp [Cq,Du]; omega
theorem GX (z:Nat):Cq z 32=Ae z:=by simp [Cq,Ae]
theorem Hx (z k:Nat) (h:k<32):((Cq z k).map bv).toArray.setIfInBounds (31 - k) (bv (CQ z k))=((Cq z (k+1)).map bv).toArray:=by
 rw [List.setIfInBounds_toArray]
 congr 1
 rw [← List.map_set]
 congr 1
 unfold Cq
 rw [List.set_append_left _ _ (by simp; omega)]
 obtain ⟨m,hm⟩:∃ m,32 - k=m+1:=⟨31 - k,by omega⟩
 have h2:32 - (k+1)=m:=by omega
 have h3:31 - k=m:=by omega
 rw [hm,h2,h3,List.replicate_succ',List.set_append_right _ _ (by simp)]
 simp [E']
theorem AN (z:Nat):(Ae z).length=32:=Du z 32
theorem KC (z j:Nat):bv (CQ z j)=.int .u8 ((z / 2 ^ (8*j)%256:Nat):Int):=by
 unfold bv CQ
 congr 2
 rw [UInt8.toNat_ofNat']
 omega
theorem Blk.val {w:World} {a:Addr} {v v':Value} {g:Nat} {t:TypeId} {cs:Array Value} (h:Blk (w.setCell a v) g t cs) (e:v=v'):Blk (w.setCell a v') g t cs:=e ▸ h
theorem Cd {l:List UInt8} (h:l.length=32):(Tryz.prog.info? 22).map (·.size)=some (l.map bv).toArray.size:=by
 simp only [List.size_toArray,List.length_map,h]
 kernel_rfl
theorem L9 (l:List UInt8):(l.map bv).toArray.all (·.oneCell')=true:=by simp [bv,Value.oneCell']
def Au (l:List UInt8):Nat:=l.foldl (λa b=>a*256+b.toNat) 0
theorem D4 (l:List UInt8) (c:UInt8):Au (l++[c])=Au l*256+c.toNat:=by simp [Au,List.foldl_append]
theorem Fk:∀ (n:Nat) (l:List UInt8),l.length=n→Au l<256 ^ n
 | 0,l,h=>by
  obtain rfl:l=[]:=List.length_eq_zero_iff.1 h
  simp [Au]
 | n+1,l,h=>by
  have hne:l≠[]:=by intro e; rw [e] at h; cases h
  have e:=List.dropLast_concat_getLast hne
  have ih:=Fk n l.dropLast (by rw [List.length_dropLast]; omega)
  rw [← e,D4,Nat.pow_succ]
  have:=(l.getLast hne).toNat_lt
  omega
theorem C1 (l:List UInt8):∀ (n:Nat) (m:List UInt8),m.length=n→Au (l++m)=Au l*256 ^ n+Au m
 | 0,m,h=>by
  obtain rfl:m=[]:=List.length_eq_zero_iff.1 h
  simp [Au]
 | n+1,m,h=>by
  have hne:m≠[]:=by intro e; rw [e] at h; cases h
  have e:=List.dropLast_concat_getLast hne
  have ih:=C1 l n m.dropLast (by rw [List.length_dropLast]; omega)
  rw [← e, ← List.append_assoc,D4,D4,ih,Nat.pow_succ,Nat.add_mul,Nat.mul_assoc]
  omega
def wdB (l:List UInt8) (k p:Nat):Nat:=Au ((l.drop (8*p)).take (min 8 (k - 8*p)))
theorem CZ (l:List UInt8) (p:Nat):wdB l 0 p=0:=by simp [wdB,Au]
theorem Ca (l:List UInt8) (k p:Nat) (c:UInt8) (h:l[k]? = some c) (hp:k / 8=p):wdB l (k+1) p=wdB l k p*256+c.toNat:=by
 unfold wdB
 rw [show min 8 (k+1 - 8*p)=(k - 8*p)+1 by omega,show min 8 (k - 8*p)=k - 8*p by omega,List.take_add_one,List.getElem?_drop,show 8*p+(k - 8*p)=k by omega,h]
 exact D4 _ _
theorem Ao (l:List UInt8) (k p:Nat) (hp:k / 8≠p):wdB l (k+1) p=wdB l k p:=by
 unfold wdB
 rw [show min 8 (k+1 - 8*p)=min 8 (k - 8*p) by omega]
theorem Dk (l:List UInt8) (k p:Nat) (hp:k / 8=p):wdB l k p<72057594037927936:=by
 unfold wdB
 have h:=Fk _ ((l.drop (8*p)).take (min 8 (k - 8*p))) rfl
 refine Nat.lt_of_lt_of_le h ?_
 have:((l.drop (8*p)).take (min 8 (k - 8*p))).length≤7:=by rw [List.length_take]; omega
 exact Nat.pow_le_pow_right (by omega) this
theorem LT (l:List UInt8) (h:l.length=32):Au l=wdB l 32 3+18446744073709551616*wdB l 32 2+340282366920938463463374607431768211456*wdB l 32 1+6277101735386680763835789423207666416102355444464034512896*wdB l 32 0:=by
 have e:l=(l.take 8++(l.drop 8).take 8)++((l.drop 16).take 8++(l.drop 24).take 8):=by
  conv=>lhs; rw [← List.take_append_drop 16 l, ← List.take_append_drop 8 (l.take 16), ← List.take_append_drop 8 (l.drop 16)]
  congr 2
  ·rw [List.take_take]; rfl
  ·rw [List.drop_take]
  ·rw [List.drop_drop,List.take_of_length_le (by simp; omega)]
 have w0:wdB l 32 0=Au (l.take 8):=rfl
 have w1:wdB l 32 1=Au ((l.drop 8).take 8):=rfl
 have w2:wdB l 32 2=Au ((l.drop 16).take 8):=rfl
 have w3:wdB l 32 3=Au ((l.drop 24).take 8):=rfl
 conv=>lhs; rw [e]
 rw [C1 _ 16 _ (by simp; omega),C1 _ 8 _ (by simp; omega),C1 _ 8 _ (by simp; omega),w0,w1,w2,w3]
 have p8:(256:Nat) ^ 8=18446744073709551616:=by decide
 have p16:(256:Nat) ^ 16=340282366920938463463374607431768211456:=by decide
 rw [p8,p16,Nat.add_mul,Nat.mul_assoc]
 omega
theorem C0 (l:List UInt8) (k p:Nat):wdB l k p<18446744073709551616:=by
 unfold wdB
 have h:=Fk _ ((l.drop (8*p)).take (min 8 (k - 8*p))) rfl
 refine Nat.lt_of_lt_of_le h ?_
 have:((l.drop (8*p)).take (min 8 (k - 8*p))).length≤8:=by rw [List.length_take]; omega
 exact Nat.pow_le_pow_right (by omega) this
theorem Ik (w c:Nat) (hw:w<72057594037927936) (hc:c<256):bits .or .u64 ((w:Int)*256) (c:Int)=((w*256+c:Nat):Int):=by
 have e:((w:Int)*256)=((w*256:Nat):Int):=by omega
 rw [e]
 have h:w*256 ||| c=w*256+c:=by
  have:=Nat.two_pow_add_eq_or_of_lt (i:=8) (b:=c) (by omega) w
  rw [Nat.mul_comm w 256]
  exact this.symm
 have hw2:(BitVec.ofInt 64 ((w*256:Nat):Int) ||| BitVec.ofInt 64 (c:Int)).toNat=w*256+c:=by
  rw [BitVec.toNat_or]
  simp only [BitVec.ofInt_natCast,BitVec.toNat_ofNat]
  rw [Nat.mod_eq_of_lt (by omega),Nat.mod_eq_of_lt (by omega),h]
 show IntKind.u64.wrap ((BitVec.ofInt 64 ((w*256:Nat):Int) ||| BitVec.ofInt 64 (c:Int)).toNat:Int)=_
 rw [hw2,IntKind.wrap_u64]
 omega
theorem G7 (W:World) (l:List UInt8) (k:Nat) (c:UInt8) (h:l[k]? = some c) (hk:k<32) :
  (Instr.index 22 (.agg (l.map bv).toArray) (.int .i64 (k:Int))).run Tryz.prog W=.ok (bv c) W:=by
 unfold Instr.index
 have hs:∀ W,(sizeOf 5).run Tryz.prog W=.ok 1 W:=λW=>by kernel_rfl
 have pc:(part 5 (l.map bv).toArray ((k:Int).toNat*1)).run Tryz.prog W=.ok (bv c) W:=by
  simp [part,isAgg,run_underlying Tryz.underlying5,h]
 simp only [asIntOf,Sem.run_bind,Sem.run_pure,Result.andThen_ok,run_underlying Tryz.underlying22]
 rw [if_pos ⟨by omega,by omega⟩]
 simp only [Sem.run_bind,hs,Result.andThen_ok,pc]
theorem A7 (l:List UInt8) (h:l.length=32):Au l<(2^256):=by
 have:=Fk 32 l h
 have e:(256:Nat) ^ 32=(2^256):=by decide
 omega
end
end
section
section
open Go.RowKit Sp
def Src (w:World) (A:Option Addr) (m:List UInt8):Prop :=
 m≠[]→∃ b o,A=some ⟨b,o,none⟩∧b<w.heap.size∧∀ j u,m[j]? = some u→w.cell? ⟨b,o+j,none⟩=some (bv u)
theorem Src.of_blk {w:World} {g:Nat} {t:TypeId} {m:List UInt8} (h:Blk w g t (m.map bv).toArray):Src w (some ⟨g,0,none⟩) m:=λ_ =>
 ⟨g,0,rfl,h.lt,λj u hu=>by rw [Nat.zero_add]; exact (h.cell j).trans (by simp [hu])⟩
theorem addr_add (g o n:Nat):(⟨g,o,none⟩:Addr).add n=⟨g,o+n,none⟩:=by
 unfold Addr.add; split <;> simp_all
theorem oneCell_bv (l:List UInt8):∀ v∈l.map bv,v.oneCell'=true:=λv hv=>by
 obtain ⟨x,_,rfl⟩:=List.mem_map.1 hv
 rfl
def OwnB (w:World) (base:Nat) (v:Value) (l:List UInt8):Prop:=w.ownsRow base 5 1 v l.length (l.map bv)
theorem infoByte:(Tryz.prog.info? 5).map (λi=>(i.zero,i.size,i.bytes))=some (some (.int .u8 0),1,1):=by kernel_rfl
theorem OwnB.form {w:World} {base:Nat} {v:Value} {l:List UInt8} (h:OwnB w base v l) (hl:0<l.length) :
  ∃ g cap,v=.slice (some ⟨g,0,none⟩) l.length cap∧base≤g∧g<w.heap.size:=World.ownsRow.form h hl
theorem OwnB.form' {w:World} {base:Nat} {v:Value} {l:List UInt8} (h:OwnB w base v l) (hl:0<l.length) :
  ∃ g n cap,v=.slice (some ⟨g,0,none⟩) n cap∧Hid (n=l.length)∧base≤g∧g<w.heap.size:=by
 obtain ⟨g,cap,h1,h2,h3⟩:=h.form hl
 exact ⟨g,l.length,cap,h1,Lib.hid rfl,h2,h3⟩
theorem OwnB.alloc {w:World} {base:Nat} {v:Value} {l:List UInt8} (h:OwnB w base v l) (o:Obj):OwnB (w.alloc o) base v l:=World.ownsRow.alloc h o
theorem OwnB.nil (w:World) (base:Nat):OwnB w base (.slice none 0 0) []:=World.ownsRow_nil w base _ _
theorem below_own {B base:Nat} {w0 w w':World} {v:Value} {l:List UInt8} (h:Below B w0 w) (hown:OwnB w base v l) (hg:w.grownBy w' v.ownBlock) (hB:B≤base) (hw:B≤w.heap.size):Below B w0 w' :=
 h.grown hg hw (λk hk=>Nat.le_trans hB (World.ownsRow.lt hown k hk).1)
theorem run_append_of_nil {P:Program} (w:World) (base:Nat) (t ty e:TypeId) (i:TypeInfo) (size:Nat) (ht:P.underlying t=some (.slice e)) (hi:P.info? e=some i)
  (v:Value) (n:Nat) (xs:List Value) (hown:w.ownsRow base e size v n xs) (c:Nat):(Builtin.append_ #[t,t] ty #[v,.slice none 0 c]).run P w=.ok v w:=by
 rcases hown.2 with ⟨rfl,rfl⟩ | ⟨g,cap,cur,rfl,_,_,hnc,_⟩
 ·simp [Builtin.append_,run_underlying ht,sizeOf,typeInfo,hi,Builtin.lenOf,Builtin.firstCells]
 ·simp [Builtin.append_,run_underlying ht,sizeOf,typeInfo,hi,Builtin.lenOf,Builtin.firstCells,hnc,storeCells]
theorem run_append_bytes (w:World) (base:Nat) (v:Value) (l m:List UInt8) (hown:OwnB w base v l) (A:Option Addr) (c:Nat) (hsrc:Src w A m) (hlen:l.length+m.length≤140737488355328) (hbase:base≤w.heap.size) (ty:TypeId) :
  ∃ v' w',(Builtin.append_ #[24,24] ty #[v,.slice A m.length c]).run Tryz.prog w=.ok v' w'∧OwnB w' base v' (l++m)∧w.grownBy w' v.ownBlock:=by
 obtain ⟨i,hi,hz0,hz1,hz2⟩:=info_parts infoByte
 by_cases hm:m=[]
 ·subst hm
  cases A with
  | none=>exact ⟨v,w,run_append_of_nil w base _ _ _ i 1 Tryz.underlying24 hi v _ _ hown c,by simpa using hown,World.grownBy.refl w _⟩
  | some ad =>
   obtain ⟨v',w',h1,h2,h3,_⟩:=run_append_own (P:=Tryz.prog) w base 24 ty 5 i (.int .u8 0) 1 1 Tryz.underlying24 hi hz0 hz1 hz2 rfl (by decide) v l.length (l.map bv) hown ad 0 c [] rfl (by simp) (by simp)
    (by simp [maxLen]; simp at hlen; omega) (by simp at hlen; omega) hbase
   exact ⟨v',w',h1,by simpa [OwnB] using h2,h3⟩
 ·obtain ⟨b,o,rfl,_,hc⟩:=hsrc hm
  obtain ⟨v',w',h1,h2,h3,_⟩:=run_append_own (P:=Tryz.prog) w base 24 ty 5 i (.int .u8 0) 1 1 Tryz.underlying24 hi hz0 hz1 hz2 rfl (by decide) v l.length (l.map bv) hown ⟨b,o,none⟩ m.length c (m.map bv) (by simp)
   (λj u hu=>by
    rw [addr_add]
    rw [List.getElem?_map] at hu
    obtain ⟨x,hx,rfl⟩:=Option.map_eq_some_iff.1 hu
    exact hc j x hx) (oneCell_bv m) (by simp [maxLen]; omega) (by omega) hbase
  exact ⟨v',w',h1,by simpa [OwnB] using h2,h3⟩
theorem wpList_append_bytes {w:World} {ops:Array Oper} {rest:List Oper} {o:Oper} {a:Act} {Q:Exit→Act→World→Prop} (hgd:o.guard=none) (s x:Operand)
  (ho:o.op=.call { callee:=.builtin .append,args:=#[s,x],argTypes:=#[24,24] }) (base:Nat) (v:Value) (l:List UInt8) (hs:a.eval s=v) (hown:OwnB w base v l)
  (A:Option Addr) (m:List UInt8) (c:Nat) (hx:a.eval x=.slice A m.length c) (hsrc:Src w A m) (hlen:l.length+m.length≤140737488355328) (hbase:base≤w.heap.size)
  (h:∀ v' w',OwnB w' base v' (l++m)→w.grownBy w' v.ownBlock→wpList Tryz.prog ops Q rest (a.put o.dst v') w'):wpList Tryz.prog ops Q (o::rest) a w:=by
 refine wpList_plain hgd λK hK=>?_
 obtain ⟨v',w',hrun,h2,h3⟩:=run_append_bytes w base v l m hown A c hsrc hlen hbase o.type
 unfold Oper.wp execOp
 simp only [ho,resolve,invoke,builtin,Sem.run_bind,Sem.run_pure,Result.andThen_ok,List.map_toArray,List.map_cons,List.map_nil,hs,hx,hrun]
 exact hK _ _ (h v' w' h2 h3)
end
end
section
section
open Go.RowKit Go.Lib
set_option maxHeartbeats 2000000 in
set_option maxRecDepth 100000 in
theorem GN (w : World) (x : Nat) (hx : x < (2^256)) : Calls Tryz.prog 131 #[Ir, fv x] w fun e w' => e = .returned (.bool (decide (x < pM))) ∧ Below w.heap.size w w' := by
  obtain ⟨p,hp⟩:∃ p,p=115792089237316195423570985008687907853269984665640564039457584007908834671663:=⟨_,rfl⟩
  obtain ⟨b,hb⟩:∃ b,b=decide (x<pM):=⟨_,rfl⟩
  have cb:∀ w,Calls Tryz.prog 119 #[fv x,fv p] w λe w'=>e=.returned (.bool b)∧Below w.heap.size w w':=by
    intro w; rw [hb,DE, ← hp]; exact G0 w x p rfl rfl hx (by omega)
  have hpc:fv p=.agg #[.int .u64 18446744069414583343,.int .u64 18446744073709551615,.int .u64 18446744073709551615,.int .u64 18446744073709551615]:=by rw [hp]; exact Jq
  obtain ⟨x0,x1,x2,x3,fx⟩:=AZ x hx
  have FX:=Lib.hid fx
  have FP:=Lib.hid hpc
  rw [fx, ← hb]
  unfold Ir
  clear fx hpc hx hp hb
  go_enter Tryz.func131,Tryz.ntmps131
  go_wp2_with (first | ((with_reducible refine AD (d:=some 5) ?_); refine AA rfl _ _ rfl (w.heap.size+1) rfl (x) _ _ _ (Aa w _ _ _) (FX.out) Tryz.underlying98 rfl (by kernel_rfl) ?_) | ((with_reducible refine AD (d:=some 7) ?_); refine BO rfl _ _ rfl w.heap.size rfl p [.int .u64 18446744069414583343,.int .u64 18446744073709551615,.int .u64 18446744073709551615,.int .u64 18446744073709551615] _ (Bx ((Blk.new w _ _).alloc _)) FP.out Tryz.underlying98 rfl (by kernel_rfl) ?_))
  refine (cb _).mono ?_
  rintro e w1 ⟨rfl,k1⟩
  go_wp2
  go_ret
  exact ⟨rfl,Below.gr (Ad w _ _) k1⟩
theorem OT (a r s : Nat) (hs : s ≤ 56) : (a + 18446744073709551616 * r) / 2 ^ s % 256 = a / 2 ^ s % 256 := by
  obtain ⟨u,hu⟩:∃ u,2 ^ s*(256*u)=18446744073709551616:=by
    refine ⟨2 ^ (56 - s),?_⟩
    have:2 ^ s*2 ^ (56 - s)=2 ^ 56:=by rw [← Nat.pow_add]; congr 1; omega
    rw [show (256:Nat)*2 ^ (56 - s)=2 ^ (56 - s)*256 from Nat.mul_comm _ _, ← Nat.mul_assoc,this]
  rw [← hu,Nat.mul_assoc,Nat.add_mul_div_left _ _ (Nat.two_pow_pos s),Nat.mul_assoc,Nat.add_mul_mod_self_left]
theorem DP (z i s w r:Nat) (hz:z / 2 ^ (64*i)=w+18446744073709551616*r) (hs:s≤56):z / 2 ^ (64*i+s)%256=w / 2 ^ s%256:=by
  rw [Nat.pow_add, ← Nat.div_div_eq_div_mul,hz,OT w r s hs]
theorem Jj (z : Nat) : ∀ (k j : Nat), j < k → (E' z k)[j]? = some (CQ z (k - 1 - j))
  | 0,j,h=>by omega
  | k+1,0,_=>by simp [E']
  | k+1,j+1,h=>by
    rw [E',List.getElem?_cons_succ,Jj z k j (by omega)]
    congr 2
    omega
theorem DO (z n:Nat) (h:n<32):(Ae z).take n++[CQ z (31 - n)]=(Ae z).take (n+1):=by
  rw [List.take_add_one,Ae,Jj z 32 n h]
  rfl
set_option maxHeartbeats 4000000 in
set_option maxRecDepth 100000 in
theorem LJ (w : World) (z : Nat) (hz : z < (2^256)) : Calls Tryz.prog 112 #[fv z] w fun e w' => ∃ g cap, e = .returned (.slice (some ⟨g, 0, none⟩) 32 cap) ∧ OwnB w' (w.heap.size + 1) (.slice (some ⟨g, 0, none⟩) 32 cap) (Ae z) ∧ g < w'.heap.size ∧ Below w.heap.size w w' := by
  obtain ⟨z0,z1,z2,z3,a0,a1,a2,a3,ez,fz⟩:=Ag z hz
  have s0:=λs hs=>DP z 0 s z0 (z1+18446744073709551616*z2+340282366920938463463374607431768211456*z3) (by omega) hs
  have s1:=λs hs=>DP z 1 s z1 (z2+18446744073709551616*z3) (by omega) hs
  have s2:=λs hs=>DP z 2 s z2 z3 (by omega) hs
  have s3:=λs hs=>DP z 3 s z3 0 (by omega) hs
  have HS:=Lib.hid (And.intro s0 (And.intro s1 (And.intro s2 s3)))
  rw [fz]
  clear ez fz hz a0 a1 a2 a3 s0 s1 s2 s3
  go_enter Tryz.func112,Tryz.ntmps112
  go_wp2_with fail
  go_loopw [3,4] (λv i wr=>Below w.heap.size w wr∧Blk wr w.heap.size 98 #[.int .u64 (z0:Int),.int .u64 (z1:Int),.int .u64 (z2:Int),.int .u64 (z3:Int)]∧Hid ((i=.int .i64 3∧OwnB wr (w.heap.size+1) v ((Ae z).take 0))∨(i=.int .i64 2∧OwnB wr (w.heap.size+1) v ((Ae z).take 8))∨(i=.int .i64 1∧OwnB wr (w.heap.size+1) v ((Ae z).take 16))∨(i=.int .i64 0∧OwnB wr (w.heap.size+1) v ((Ae z).take 24))∨(i=.int .i64 (-1)∧OwnB wr (w.heap.size+1) v ((Ae z).take 32)))) (λ_ i _=>(intOf i+1).toNat)
  case atStart=>exact ⟨(Below.refl _ _).alloc (Nat.le_refl _) _,Blk.new w _ _,Lib.hid (.inl ⟨rfl,OwnB.nil _ _⟩)⟩
  case round =>
    obtain ⟨hb,BZ,HI⟩:=hrel
    rcases HI.out with ⟨rfl,hown⟩ | ⟨rfl,hown⟩ | ⟨rfl,hown⟩ | ⟨rfl,hown⟩ | ⟨rfl,hown⟩
    · clear HI
      go_wp2_with fail
      go_loopw [3,5] (λv s wr=>∃ t:Nat,t≤8∧s=.int .i64 (56 - 8*(t:Int))∧Below w.heap.size w wr∧Blk wr w.heap.size 98 #[.int .u64 (z0:Int),.int .u64 (z1:Int),.int .u64 (z2:Int),.int .u64 (z3:Int)]∧OwnB wr (w.heap.size+1) v ((Ae z).take (0+t))) (λ_ s _=>(intOf s+8).toNat)
      case atStart=>exact ⟨0,by omega,rfl,hb,BZ,hown⟩
      case round =>
        clear hb BZ hown
        obtain ⟨t,ht,rfl,hb,BZ,hown⟩:=hrel
        by_cases hlt:t<8
        · obtain ⟨s, hs⟩ : ∃ s, s = 56 - 8 * t := ⟨_, rfl⟩
          have hs1:(56 - 8*(t:Int))=(s:Int):=by omega
          obtain ⟨x,hx⟩:∃ x,x=CQ z (31 - (0+t)):=⟨_,rfl⟩
          have hxe:(z3:Int) / 2 ^ s%256=(x.toNat:Int):=by
            have h:=HS.out.2.2.2 s (by omega)
            have e:8*(31 - (0+t))=64*3+s:=by omega
            rw [hx,CQ,UInt8.toNat_ofNat',e,h]
            have:((z3:Int) / 2 ^ s%256)=((z3 / 2 ^ s%256:Nat):Int):=by push_cast; rfl
            rw [this]
            omega
          have hlen:((Ae z).take (0+t)).length≤32:=by rw [List.length_take,AN]; omega
          have HX:=Lib.hid (And.intro hx (And.intro hxe hlen))
          have pc:wr.cell? ⟨w.heap.size,3,none⟩=some (.int .u64 (z3:Int)):=BZ.cell 3
          have hsl:s≤56:=by omega
          have HT:=Lib.hid hs
          have lz:=BZ.lt
          rw [hs1]
          clear hx hxe hlen hs
          go_wp2_with (at_builtin
                       refine wpList_append_bytes rfl (.tmp 14) (.tmp 21) rfl (w.heap.size+1) _ ((Ae z).take (0+t)) rfl (hown.alloc _) (some ⟨wr.heap.size,0,none⟩) [x] 1 rfl (Src.of_blk (Blk.eq_ (Blk.new wr 5 _) (by rw [HX.out.2.1]; rfl))) (by have:=HX.out.2.2; simp only [List.length_singleton]; omega) (by simp <;> omega) ?_
                       intro v3 w3 hv3 hg3
                       have hb3:=below_own (hb.alloc (by omega) _) (hown.alloc _) hg3 (Nat.le_succ _) (by simp <;> omega)
                       have BZ3:=Blk.grown (BZ.alloc _) hg3 (λe=>by have:=(World.ownsRow.lt hown _ e.symm).1; omega)
                       rw [HX.out.1,DO z (0+t) (by omega)] at hv3)
          go_roundw
          case rel=>exact ⟨t+1,by omega,by congr 1; omega,hb3,BZ3,hv3⟩
          case measure=>simp [intOf]; omega
        · obtain rfl:t=8:=by omega
          go_wp2
          refine ⟨⟨hb,BZ,Lib.hid (.inr (.inl (⟨rfl,hown⟩)))⟩,by decide⟩
    · clear HI
      go_wp2_with fail
      go_loopw [3,5] (λv s wr=>∃ t:Nat,t≤8∧s=.int .i64 (56 - 8*(t:Int))∧Below w.heap.size w wr∧Blk wr w.heap.size 98 #[.int .u64 (z0:Int),.int .u64 (z1:Int),.int .u64 (z2:Int),.int .u64 (z3:Int)]∧OwnB wr (w.heap.size+1) v ((Ae z).take (8+t))) (λ_ s _=>(intOf s+8).toNat)
      case atStart=>exact ⟨0,by omega,rfl,hb,BZ,hown⟩
      case round =>
        clear hb BZ hown
        obtain ⟨t,ht,rfl,hb,BZ,hown⟩:=hrel
        by_cases hlt:t<8
        · obtain ⟨s, hs⟩ : ∃ s, s = 56 - 8 * t := ⟨_, rfl⟩
          have hs1:(56 - 8*(t:Int))=(s:Int):=by omega
          obtain ⟨x,hx⟩:∃ x,x=CQ z (31 - (8+t)):=⟨_,rfl⟩
          have hxe:(z2:Int) / 2 ^ s%256=(x.toNat:Int):=by
            have h:=HS.out.2.2.1 s (by omega)
            have e:8*(31 - (8+t))=64*2+s:=by omega
            rw [hx,CQ,UInt8.toNat_ofNat',e,h]
            have:((z2:Int) / 2 ^ s%256)=((z2 / 2 ^ s%256:Nat):Int):=by push_cast; rfl
            rw [this]
            omega
          have hlen:((Ae z).take (8+t)).length≤32:=by rw [List.length_take,AN]; omega
          have HX:=Lib.hid (And.intro hx (And.intro hxe hlen))
          have pc:wr.cell? ⟨w.heap.size,2,none⟩=some (.int .u64 (z2:Int)):=BZ.cell 2
          have hsl:s≤56:=by omega
          have HT:=Lib.hid hs
          have lz:=BZ.lt
          rw [hs1]
          clear hx hxe hlen hs
          go_wp2_with (at_builtin
                       refine wpList_append_bytes rfl (.tmp 14) (.tmp 21) rfl (w.heap.size+1) _ ((Ae z).take (8+t)) rfl (hown.alloc _) (some ⟨wr.heap.size,0,none⟩) [x] 1 rfl (Src.of_blk (Blk.eq_ (Blk.new wr 5 _) (by rw [HX.out.2.1]; rfl))) (by have:=HX.out.2.2; simp only [List.length_singleton]; omega) (by simp <;> omega) ?_
                       intro v3 w3 hv3 hg3
                       have hb3:=below_own (hb.alloc (by omega) _) (hown.alloc _) hg3 (Nat.le_succ _) (by simp <;> omega)
                       have BZ3:=Blk.grown (BZ.alloc _) hg3 (λe=>by have:=(World.ownsRow.lt hown _ e.symm).1; omega)
                       rw [HX.out.1,DO z (8+t) (by omega)] at hv3)
          go_roundw
          case rel=>exact ⟨t+1,by omega,by congr 1; omega,hb3,BZ3,hv3⟩
          case measure=>simp [intOf]; omega
        · obtain rfl:t=8:=by omega
          go_wp2
          refine ⟨⟨hb,BZ,Lib.hid (.inr (.inr (.inl (⟨rfl,hown⟩))))⟩,by decide⟩
    · clear HI
      go_wp2_with fail
      go_loopw [3,5] (λv s wr=>∃ t:Nat,t≤8∧s=.int .i64 (56 - 8*(t:Int))∧Below w.heap.size w wr∧Blk wr w.heap.size 98 #[.int .u64 (z0:Int),.int .u64 (z1:Int),.int .u64 (z2:Int),.int .u64 (z3:Int)]∧OwnB wr (w.heap.size+1) v ((Ae z).take (16+t))) (λ_ s _=>(intOf s+8).toNat)
      case atStart=>exact ⟨0,by omega,rfl,hb,BZ,hown⟩
      case round =>
        clear hb BZ hown
        obtain ⟨t,ht,rfl,hb,BZ,hown⟩:=hrel
        by_cases hlt:t<8
        · obtain ⟨s, hs⟩ : ∃ s, s = 56 - 8 * t := ⟨_, rfl⟩
          have hs1:(56 - 8*(t:Int))=(s:Int):=by omega
          obtain ⟨x,hx⟩:∃ x,x=CQ z (31 - (16+t)):=⟨_,rfl⟩
          have hxe:(z1:Int) / 2 ^ s%256=(x.toNat:Int):=by
            have h:=HS.out.2.1 s (by omega)
            have e:8*(31 - (16+t))=64*1+s:=by omega
            rw [hx,CQ,UInt8.toNat_ofNat',e,h]
            have:((z1:Int) / 2 ^ s%256)=((z1 / 2 ^ s%256:Nat):Int):=by push_cast; rfl
            rw [this]
            omega
          have hlen:((Ae z).take (16+t)).length≤32:=by rw [List.length_take,AN]; omega
          have HX:=Lib.hid (And.intro hx (And.intro hxe hlen))
          have pc:wr.cell? ⟨w.heap.size,1,none⟩=some (.int .u64 (z1:Int)):=BZ.cell 1
          have hsl:s≤56:=by omega
          have HT:=Lib.hid hs
          have lz:=BZ.lt
          rw [hs1]
          clear hx hxe hlen hs
          go_wp2_with (at_builtin
                       refine wpList_append_bytes rfl (.tmp 14) (.tmp 21) rfl (w.heap.size+1) _ ((Ae z).take (16+t)) rfl (hown.alloc _) (some ⟨wr.heap.size,0,none⟩) [x] 1 rfl (Src.of_blk (Blk.eq_ (Blk.new wr 5 _) (by rw [HX.out.2.1]; rfl))) (by have:=HX.out.2.2; simp only [List.length_singleton]; omega) (by simp <;> omega) ?_
                       intro v3 w3 hv3 hg3
                       have hb3:=below_own (hb.alloc (by omega) _) (hown.alloc _) hg3 (Nat.le_succ _) (by simp <;> omega)
                       have BZ3:=Blk.grown (BZ.alloc _) hg3 (λe=>by have:=(World.ownsRow.lt hown _ e.symm).1; omega)
                       rw [HX.out.1,DO z (16+t) (by omega)] at hv3)
          go_roundw
          case rel=>exact ⟨t+1,by omega,by congr 1; omega,hb3,BZ3,hv3⟩
          case measure=>simp [intOf]; omega
        · obtain rfl:t=8:=by omega
          go_wp2
          refine ⟨⟨hb,BZ,Lib.hid (.inr (.inr (.inr (.inl (⟨rfl,hown⟩)))))⟩,by decide⟩
    · clear HI
      go_wp2_with fail
      go_loopw [3,5] (λv s wr=>∃ t:Nat,t≤8∧s=.int .i64 (56 - 8*(t:Int))∧Below w.heap.size w wr∧Blk wr w.heap.size 98 #[.int .u64 (z0:Int),.int .u64 (z1:Int),.int .u64 (z2:Int),.int .u64 (z3:Int)]∧OwnB wr (w.heap.size+1) v ((Ae z).take (24+t))) (λ_ s _=>(intOf s+8).toNat)
      case atStart=>exact ⟨0,by omega,rfl,hb,BZ,hown⟩
      case round =>
        clear hb BZ hown
        obtain ⟨t,ht,rfl,hb,BZ,hown⟩:=hrel
        by_cases hlt:t<8
        · obtain ⟨s, hs⟩ : ∃ s, s = 56 - 8 * t := ⟨_, rfl⟩
          have hs1:(56 - 8*(t:Int))=(s:Int):=by omega
          obtain ⟨x,hx⟩:∃ x,x=CQ z (31 - (24+t)):=⟨_,rfl⟩
          have hxe:(z0:Int) / 2 ^ s%256=(x.toNat:Int):=by
            have h:=HS.out.1 s (by omega)
            have e:8*(31 - (24+t))=64*0+s:=by omega
            rw [hx,CQ,UInt8.toNat_ofNat',e,h]
            have:((z0:Int) / 2 ^ s%256)=((z0 / 2 ^ s%256:Nat):Int):=by push_cast; rfl
            rw [this]
            omega
          have hlen:((Ae z).take (24+t)).length≤32:=by rw [List.length_take,AN]; omega
          have HX:=Lib.hid (And.intro hx (And.intro hxe hlen))
          have pc:wr.cell? ⟨w.heap.size,0,none⟩=some (.int .u64 (z0:Int)):=BZ.cell 0
          have hsl:s≤56:=by omega
          have HT:=Lib.hid hs
          have lz:=BZ.lt
          rw [hs1]
          clear hx hxe hlen hs
          go_wp2_with (at_builtin
                       refine wpList_append_bytes rfl (.tmp 14) (.tmp 21) rfl (w.heap.size+1) _ ((Ae z).take (24+t)) rfl (hown.alloc _) (some ⟨wr.heap.size,0,none⟩) [x] 1 rfl (Src.of_blk (Blk.eq_ (Blk.new wr 5 _) (by rw [HX.out.2.1]; rfl))) (by have:=HX.out.2.2; simp only [List.length_singleton]; omega) (by simp <;> omega) ?_
                       intro v3 w3 hv3 hg3
                       have hb3:=below_own (hb.alloc (by omega) _) (hown.alloc _) hg3 (Nat.le_succ _) (by simp <;> omega)
                       have BZ3:=Blk.grown (BZ.alloc _) hg3 (λe=>by have:=(World.ownsRow.lt hown _ e.symm).1; omega)
                       rw [HX.out.1,DO z (24+t) (by omega)] at hv3)
          go_roundw
          case rel=>exact ⟨t+1,by omega,by congr 1; omega,hb3,BZ3,hv3⟩
          case measure=>simp [intOf]; omega
        · obtain rfl:t=8:=by omega
          go_wp2
          refine ⟨⟨hb,BZ,Lib.hid (.inr (.inr (.inr (.inr (⟨rfl,hown⟩)))))⟩,by decide⟩
    · clear HI
      rw [List.take_of_length_le (by rw [AN]; exact Nat.le_refl _)] at hown
      obtain ⟨g,n,cap,rfl,hn,_,hl⟩:=hown.form' (by rw [AN]; omega)
      have hn32:n=32:=by rw [hn.out,AN]
      subst hn32
      go_wp2
      go_ret
      exact ⟨g,cap,rfl,hown,hl,hb⟩
end
end
section
namespace Cu
open Go.RowKit Sy
set_option maxRecDepth 100000
set_option maxHeartbeats 4000000
def Bh:Array Value:=#[.int .u64 18446744069414583343,.int .u64 18446744073709551615,.int .u64 18446744073709551615,.int .u64 18446744073709551615,.int .u64 4294968273,.int .u64 0,.int .u64 0]
def Rx:Array Value:=#[.int .u64 0,.int .u64 0,.int .u64 0,.int .u64 0,.int .u64 0,.int .u64 0,.int .u64 0]
theorem Nc (w:World) (a b:Fp):Calls Tryz.prog 115 #[.agg Bh,fv a.val,fv b.val] w (Gets w (fv (a*b).val)):=mulR_any w a.val b.val (lt4 a) (lt4 b)
theorem Nd (w:World) (a b:Fp):Calls Tryz.prog 150 #[.agg Bh,fv a.val,fv b.val] w (Gets w (fv (a+b).val)):=Ex w a.val b.val (lt4 a) (lt4 b)
theorem Nb (w:World) (a b:Fp):Calls Tryz.prog 114 #[.agg Bh,fv a.val,fv b.val] w (Gets w (fv (a - b).val)):=by rw [← LU]; exact subR_any w a.val b.val (lt4 a) (lt4 b)
theorem Q9 (a:Nat):G' a=pw a (115792089237316195423570985008687907853269984665640564039457584007908834671663 - 2):=by
 have h:=Jm a
 rw [Jl] at h
 rw [h, ← P1]
 rfl
theorem GP (w:World) (a:Fp):Calls Tryz.prog 66 #[.agg Bh,fv a.val] w (Gets w (fv (Ac a).val)):=by
 have e:(Ac a).val=G' a.val:=rfl
 have h:=invRef_any w a.val (lt4 a)
 rw [← Q9, ← e] at h
 exact h
theorem C6 (w:World) (F:AU) (o:Oper) (x y:Operand) (n m:Nat) {yt:TypeId} (ho:o.op=.binOp .eql 98 x y yt) (hx:evF F x=fv n) (hy:evF F y=fv m) (hn:n<K4) (hm:m<K4):(execOp (evF F) o).run Tryz.prog w=.ok (.value (.bool (decide (n=m)))) w:=by
 have h1:=Nm.run_eqGuard_fv .eql x y n m w
 have h2:=Nm.run_eql_fv w n m hn hm
 unfold execOp
 simp only [ho,hx,hy,Sem.run_bind,h1,h2,Result.andThen_ok,Sem.run_pure]
theorem PX (w:World) (F:AU) (o:Oper) (x y:Operand) (n m:Nat) {yt:TypeId} (ho:o.op=.binOp .neq 98 x y yt) (hx:evF F x=fv n) (hy:evF F y=fv m) (hn:n<K4) (hm:m<K4):(execOp (evF F) o).run Tryz.prog w=.ok (.value (.bool (decide (n≠m)))) w:=by
 have h1:=Nm.run_eqGuard_fv .neq x y n m w
 have h2:=Nm.run_neq_fv w n m hn hm
 unfold execOp
 simp only [ho,hx,hy,Sem.run_bind,h1,h2,Result.andThen_ok,Sem.run_pure]
theorem Lb (w:World) (k:Nat) (hk:k<18446744073709551616):Calls Tryz.prog 123 #[.int .u64 (k:Int)] w (Gets w (fv k)):=by
 rw [Dw k hk]
 refine Sy.enter (args:=[.int .u64 (k:Int)]) Tryz.func123 rfl kL ?_
 refine sC ?_
 refine sM 98 (fcs 0) (λg0=>?_)
 refine sA ?_
 refine sP (.int .u64 (k:Int))<|sP (.agg #[.int .u64 (k:Int),.int .u64 0,.int .u64 0,.int .u64 0])<|sW 0 g0 98 (fcs 0) #[.int .u64 (k:Int),.int .u64 0,.int .u64 0,.int .u64 0] (wS 0 98 #[.int .u64 (k:Int),.int .u64 0,.int .u64 0,.int .u64 0] rfl) ?_
 refine sG<|Sy.ret ?_
 exact Sy.ret1 rfl (.inl (Res.cell (ty':=98) g0 0 #[.int .u64 (k:Int),.int .u64 0,.int .u64 0,.int .u64 0] _ kR kR Tryz.underlying98 rfl kR kR))
theorem Aw (w:World) (a b:Fp):Calls Tryz.prog 68 #[fv a.val,fv b.val] w (Gets w (fv (a*b).val)):=by
 refine Sy.enter (args:=[fv a.val,fv b.val]) Tryz.func68 rfl kL ?_
 refine sC ?_
 refine sM 98 (fcs a.val) (λg0=>?_)
 refine sM 98 (fcs b.val) (λg1=>?_)
 refine sM 98 (fcs 0) (λg2=>?_)
 refine sH (λj=>j == 4) ?_
 refine sD 0 rfl (.agg Bh) (qF 67 #[] (Co))<|sD 1 rfl (fv a.val) (qL 0 g0 0 4 98 98 (fcs a.val) rfl Tryz.underlying98)<|sD 2 rfl (fv b.val) (qL 1 g1 0 4 98 98 (fcs b.val) rfl Tryz.underlying98) ?_
 obtain ⟨z1,hz1⟩:∃ z:Fp,z=a*b:=⟨_,rfl⟩
 refine sD 3 rfl (fv z1.val) (qF 115 #[.agg Bh,fv a.val,fv b.val] (λw=>by rw [hz1]; exact Nc w a b))<|sX 4 rfl 2 g2 98 (fcs 0) (fcs z1.val) (wS 0 98 (fcs z1.val) rfl) ?_
 refine sI ?_
 refine Sy.ret ?_
 rw [show (fv (a*b).val:Value)=fv z1.val from by rw [hz1]]
 exact rC (v:=fv z1.val) 98 g2 2 (fcs z1.val) rfl Tryz.underlying98
theorem CA (w:World) (a b:Fp):Calls Tryz.prog 121 #[fv a.val,fv b.val] w (Gets w (fv (a+b).val)):=by
 refine Sy.enter (args:=[fv a.val,fv b.val]) Tryz.func121 rfl kL ?_
 refine sC ?_
 refine sM 98 (fcs a.val) (λg0=>?_)
 refine sM 98 (fcs b.val) (λg1=>?_)
 refine sM 98 (fcs 0) (λg2=>?_)
 refine sH (λj=>j == 4) ?_
 refine sD 0 rfl (.agg Bh) (qF 67 #[] (Co))<|sD 1 rfl (fv a.val) (qL 0 g0 0 4 98 98 (fcs a.val) rfl Tryz.underlying98)<|sD 2 rfl (fv b.val) (qL 1 g1 0 4 98 98 (fcs b.val) rfl Tryz.underlying98) ?_
 obtain ⟨z1,hz1⟩:∃ z:Fp,z=a+b:=⟨_,rfl⟩
 refine sD 3 rfl (fv z1.val) (qF 150 #[.agg Bh,fv a.val,fv b.val] (λw=>by rw [hz1]; exact Nd w a b))<|sX 4 rfl 2 g2 98 (fcs 0) (fcs z1.val) (wS 0 98 (fcs z1.val) rfl) ?_
 refine sI ?_
 refine Sy.ret ?_
 rw [show (fv (a+b).val:Value)=fv z1.val from by rw [hz1]]
 exact rC (v:=fv z1.val) 98 g2 2 (fcs z1.val) rfl Tryz.underlying98
theorem Ba (w:World) (a b:Fp):Calls Tryz.prog 122 #[fv a.val,fv b.val] w (Gets w (fv (a - b).val)):=by
 refine Sy.enter (args:=[fv a.val,fv b.val]) Tryz.func122 rfl kL ?_
 refine sC ?_
 refine sM 98 (fcs a.val) (λg0=>?_)
 refine sM 98 (fcs b.val) (λg1=>?_)
 refine sM 98 (fcs 0) (λg2=>?_)
 refine sH (λj=>j == 4) ?_
 refine sD 0 rfl (.agg Bh) (qF 67 #[] (Co))<|sD 1 rfl (fv a.val) (qL 0 g0 0 4 98 98 (fcs a.val) rfl Tryz.underlying98)<|sD 2 rfl (fv b.val) (qL 1 g1 0 4 98 98 (fcs b.val) rfl Tryz.underlying98) ?_
 obtain ⟨z1,hz1⟩:∃ z:Fp,z=a - b:=⟨_,rfl⟩
 refine sD 3 rfl (fv z1.val) (qF 114 #[.agg Bh,fv a.val,fv b.val] (λw=>by rw [hz1]; exact Nb w a b))<|sX 4 rfl 2 g2 98 (fcs 0) (fcs z1.val) (wS 0 98 (fcs z1.val) rfl) ?_
 refine sI ?_
 refine Sy.ret ?_
 rw [show (fv (a - b).val:Value)=fv z1.val from by rw [hz1]]
 exact rC (v:=fv z1.val) 98 g2 2 (fcs z1.val) rfl Tryz.underlying98
theorem Fj (w:World)  : Calls Tryz.prog 65 #[] w (Gets w (pv 0 0 true)):=by
 refine Sy.enter (args:=[]) Tryz.func65 rfl kL ?_
 refine sC ?_
 refine sM 52 (pcs 0 0 false) (λg0=>?_)
 refine sA ?_
 refine sP (pv 0 0 true)<|sW 0 g0 52 (pcs 0 0 false) (pcs 0 0 true) (wS 0 52 (pcs 0 0 true) rfl) ?_
 refine sG<|Sy.ret ?_
 exact rC (v:=pv 0 0 true) 52 g0 0 (pcs 0 0 true) rfl Tryz.underlying52
theorem I5 (w:World)  : Calls Tryz.prog 23 #[] w (Gets w (ptv bP)):=by
 refine Sy.enter (args:=[]) Tryz.func23 rfl kL ?_
 refine sC ?_
 refine sM 52 (pcs 0 0 false) (λg0=>?_)
 refine sA ?_
 refine sP (fv 55066263022277343669578718895168534326250603453777594175500187360389116729240)<|sP (fv 32670510020758816978083085130507043184471273380659243275938904335757337482424)<|sP (pv 55066263022277343669578718895168534326250603453777594175500187360389116729240 32670510020758816978083085130507043184471273380659243275938904335757337482424 false)<|sW 0 g0 52 (pcs 0 0 false) (pcs 55066263022277343669578718895168534326250603453777594175500187360389116729240 32670510020758816978083085130507043184471273380659243275938904335757337482424 false) (wS 0 52 (pcs 55066263022277343669578718895168534326250603453777594175500187360389116729240 32670510020758816978083085130507043184471273380659243275938904335757337482424 false) rfl) ?_
 refine sG<|Sy.ret ?_
 rw [show (ptv bP:Value)=pv 55066263022277343669578718895168534326250603453777594175500187360389116729240 32670510020758816978083085130507043184471273380659243275938904335757337482424 false from by kernel_rfl]
 exact rC (v:=pv 55066263022277343669578718895168534326250603453777594175500187360389116729240 32670510020758816978083085130507043184471273380659243275938904335757337482424 false) 52 g0 0 (pcs 55066263022277343669578718895168534326250603453777594175500187360389116729240 32670510020758816978083085130507043184471273380659243275938904335757337482424 false) rfl Tryz.underlying52
theorem P4 (w:World) (x:Fp):Calls Tryz.prog 167 #[fv x.val] w (Gets w (fv (x*x*x+7).val)):=by
 refine Sy.enter (args:=[fv x.val]) Tryz.func167 rfl kL ?_
 refine sC ?_
 refine sM 98 (fcs x.val) (λg0=>?_)
 refine sM 98 (fcs 0) (λg1=>?_)
 refine sH (λj=>j == 7) ?_
 refine sD 0 rfl (fv x.val) (qL 0 g0 0 4 98 98 (fcs x.val) rfl Tryz.underlying98)<|sD 1 rfl (fv x.val) (qL 0 g0 0 4 98 98 (fcs x.val) rfl Tryz.underlying98)<|sD 2 rfl (fv x.val) (qL 0 g0 0 4 98 98 (fcs x.val) rfl Tryz.underlying98) ?_
 obtain ⟨z1,hz1⟩:∃ z:Fp,z=x*x:=⟨_,rfl⟩
 refine sD 3 rfl (fv z1.val) (qF 68 #[fv x.val,fv x.val] (λw=>by rw [hz1]; exact Aw w x x)) ?_
 obtain ⟨z2,hz2⟩:∃ z:Fp,z=x*z1:=⟨_,rfl⟩
 refine sD 4 rfl (fv z2.val) (qF 68 #[fv x.val,fv z1.val] (λw=>by rw [hz2]; exact Aw w x z1)) ?_
 obtain ⟨z3,hz3⟩:∃ z:Fp,z=(7:Fp):=⟨_,rfl⟩
 refine sD 5 rfl (fv z3.val) (qF 123 #[.int .u64 7] (λw=>by rw [hz3]; exact Lb w 7 (by decide))) ?_
 obtain ⟨z4,hz4⟩:∃ z:Fp,z=z2+z3:=⟨_,rfl⟩
 refine sD 6 rfl (fv z4.val) (qF 121 #[fv z2.val,fv z3.val] (λw=>by rw [hz4]; exact CA w z2 z3))<|sX 7 rfl 1 g1 98 (fcs 0) (fcs z4.val) (wS 0 98 (fcs z4.val) rfl) ?_
 refine sI ?_
 refine Sy.ret ?_
 rw [show (fv (x*x*x+7).val:Value)=fv z4.val from by
  refine congrArg (λt:Fp=>fv t.val) ?_
  grobner]
 exact rC (v:=fv z4.val) 98 g1 1 (fcs z4.val) rfl Tryz.underlying98
theorem GW (w:World) (x y:Nat) (hx:x<K4) (hy:y<K4):Calls Tryz.prog 69 #[fv x,fv y] w (Gets w (pv x y false)):=by
 refine Sy.enter (args:=[fv x,fv y]) Tryz.func69 rfl kL ?_
 refine sC ?_
 refine sM 98 (fcs x) (λg0=>?_)
 refine sM 98 (fcs y) (λg1=>?_)
 refine sM 52 (pcs 0 0 false) (λg2=>?_)
 refine sH (λj=>j == 5) ?_
 refine sD 0 rfl (fv x) (qL 0 g0 0 4 98 98 (fcs x) rfl Tryz.underlying98)<|sD 1 rfl (fv x) (qF 125 #[fv x] (λw=>Hr w x lK))<|sD 2 rfl (fv y) (qL 1 g1 0 4 98 98 (fcs y) rfl Tryz.underlying98)<|sD 3 rfl (fv y) (qF 125 #[fv y] (λw=>Hr w y lK))<|sZ 4 rfl (pv x y false)<|sX 5 rfl 2 g2 52 (pcs 0 0 false) (pcs x y false) (wS 0 52 (pcs x y false) rfl) ?_
 refine sI ?_
 refine Sy.ret ?_
 exact rC (v:=pv x y false) 52 g2 2 (pcs x y false) rfl Tryz.underlying52
theorem JU (w:World) (x y:Nat) (i:Bool) (hx:x<K4) (hy:y<K4):Calls Tryz.prog 111 #[pv x y i] w (Gets w (.bool (Am x y i))):=by
 refine Sy.enter (args:=[pv x y i]) Tryz.func111 rfl kL ?_
 refine sC ?_
 refine sM 52 (pcs x y i) (λg0=>?_)
 refine sP (.bool false) ?_
 refine sG<|Sy.seq<|sC ?_
 refine sP (.pointer (some ⟨g0,8,none⟩))<|sS (.bool i) (qC 0 g0 8 52 4 (pcs x y i) rfl Tryz.underlying4) ?_
 refine sG ?_
 cases i
 ·refine sU<|Sy.skip<|sB ?_
  refine sP (.pointer (some ⟨g0,0,none⟩))<|sS (fv x) (qL 0 g0 0 4 52 50 (pcs x y false) rfl Tryz.underlying50)<|sS (fv x) (qF 62 #[fv x] (λw=>refOf_any w x lK)) ?_
  refine sM 98 (fcs 0) (λg1=>?_)
  refine sW 1 g1 98 (fcs 0) (fcs x) (wS 0 98 (fcs x) rfl) ?_
  refine sA ?_
  refine sP (.pointer (some ⟨g0,4,none⟩))<|sS (fv y) (qL 0 g0 4 4 52 50 (pcs x y false) rfl Tryz.underlying50)<|sS (fv y) (qF 62 #[fv y] (λw=>refOf_any w y lK)) ?_
  refine sM 98 (fcs 0) (λg2=>?_)
  refine sW 2 g2 98 (fcs 0) (fcs y) (wS 0 98 (fcs y) rfl) ?_
  refine sA ?_
  refine sS (.agg Bh) (qF 67 #[] (Co)) ?_
  refine sM 102 Rx (λg3=>?_)
  refine sW 3 g3 102 Rx Bh (wS 0 102 Bh rfl) ?_
  refine sA ?_
  refine sS (.agg Bh) (qL 3 g3 0 7 102 102 Bh rfl Tryz.underlying102)<|sS (fv x) (qL 1 g1 0 4 98 98 (fcs x) rfl Tryz.underlying98) ?_
  obtain ⟨b1,hb1⟩:∃ z:Bool,z=decide (x<pM):=⟨_,rfl⟩
  refine sS (.bool b1) (qF 131 #[.agg Bh,fv x] (λw=>by rw [hb1]; exact GN w x lK))<|sP (.bool b1) ?_
  refine sA ?_
  refine sS (.agg Bh) (qL 3 g3 0 7 102 102 Bh rfl Tryz.underlying102)<|sS (fv y) (qL 2 g2 0 4 98 98 (fcs y) rfl Tryz.underlying98) ?_
  obtain ⟨b2,hb2⟩:∃ z:Bool,z=decide (y<pM):=⟨_,rfl⟩
  refine sS (.bool b2) (qF 131 #[.agg Bh,fv y] (λw=>by rw [hb2]; exact GN w y lK))<|sP (.bool b2) ?_
  refine sH (λj=>false) ?_
  refine sZ 0 rfl (.bool b1)<|sZ 1 rfl (.bool b1) ?_
  cases b1
  ·refine sQ 2 rfl<|sZ 3 rfl (.bool false)<|sZ 4 rfl (.bool false)<|sQ 5 rfl<|sQ 6 rfl<|sQ 7 rfl<|sQ 8 rfl<|sQ 9 rfl ?_
   refine sQ 10 rfl<|sZ 11 rfl (.bool false)<|sZ 12 rfl (.bool false) ?_
   refine sI ?_
   refine Sy.ret ?_
   rw [show (.bool (Am x y false):Value)=.bool false from by rw [Ro (of_decide_eq_false hb1.symm)]]
   exact rV (.bool false) rfl
  ·obtain ⟨ux,rfl⟩:∃ u:Fp,x=u.val:=⟨⟨x,of_decide_eq_true hb1.symm⟩,rfl⟩
   refine sZ 2 rfl (.bool b2)<|sZ 3 rfl (.bool b2)<|sZ 4 rfl (.bool b2) ?_
   cases b2
   ·refine sQ 5 rfl<|sQ 6 rfl<|sQ 7 rfl<|sQ 8 rfl<|sQ 9 rfl<|sQ 10 rfl<|sZ 11 rfl (.bool false)<|sZ 12 rfl (.bool false) ?_
    refine sI ?_
    refine Sy.ret ?_
    rw [show (.bool (Am ux.val y false):Value)=.bool false from by rw [Rn (of_decide_eq_false hb2.symm)]]
    exact rV (.bool false) rfl
   ·obtain ⟨uy,rfl⟩:∃ u:Fp,y=u.val:=⟨⟨y,of_decide_eq_true hb2.symm⟩,rfl⟩
    refine sD 5 rfl (fv uy.val) (qL 2 g2 0 4 98 98 (fcs uy.val) rfl Tryz.underlying98)<|sD 6 rfl (fv uy.val) (qL 2 g2 0 4 98 98 (fcs uy.val) rfl Tryz.underlying98) ?_
    obtain ⟨z1,hz1⟩:∃ z:Fp,z=uy*uy:=⟨_,rfl⟩
    refine sD 7 rfl (fv z1.val) (qF 68 #[fv uy.val,fv uy.val] (λw=>by rw [hz1]; exact Aw w uy uy))<|sD 8 rfl (fv ux.val) (qL 1 g1 0 4 98 98 (fcs ux.val) rfl Tryz.underlying98) ?_
    obtain ⟨z2,hz2⟩:∃ z:Fp,z=ux*ux*ux+7:=⟨_,rfl⟩
    refine sD 9 rfl (fv z2.val) (qF 167 #[fv ux.val] (λw=>by rw [hz2]; exact P4 w ux)) ?_
    obtain ⟨b3,hb3⟩:∃ z:Bool,z=decide (z1.val=z2.val):=⟨_,rfl⟩
    refine sD 10 rfl (.bool b3) (Quiet.pure (λw=>by rw [hb3]; exact C6 w _ _ _ _ _ _ rfl rfl rfl lK lK))<|sZ 11 rfl (.bool b3)<|sZ 12 rfl (.bool b3) ?_
    refine sI ?_
    refine Sy.ret ?_
    rw [show (.bool (Am ux.val uy.val false):Value)=.bool b3 from by rw [hb3,Nf]; simp only [hz2,hz1]]
    exact rV (.bool b3) rfl
 ·refine sT<|Sy.seq ?_
  refine Sy.regionD (λj=>false) kR ?_
  refine sD 0 rfl (pv x y true) (qL 0 g0 0 9 52 52 (pcs x y true) rfl Tryz.underlying52)<|sD 1 rfl (pv 0 0 true) (qF 65 #[] (Fj)) ?_
  obtain ⟨b4,hb4⟩:∃ z:Bool,z=Cn x y true 0 0 true:=⟨_,rfl⟩
  refine sD 2 rfl (.bool b4) (Quiet.pure (λw=>by rw [hb4]; exact FJ w _ _ _ _ _ _ _ _ _ _ rfl rfl rfl lK lK lK lK))<|sZ 3 rfl (.bool b4) ?_
  refine sI ?_
  refine Sy.ret<|Sy.then_ret ?_
  rw [show (.bool (Am x y true):Value)=.bool b4 from by rw [hb4,GO]]
  exact rV (.bool b4) rfl
theorem Br (w:World) (x y:Nat) (i:Bool) (hx:x<K4) (hy:y<K4):Calls Tryz.prog 58 #[pv x y i] w (Gets w (ptv (dec x y i))):=by
 refine Sy.enter (args:=[pv x y i]) Tryz.func58 rfl kL ?_
 refine sC ?_
 refine sM 52 (pcs x y i) (λg0=>?_)
 refine sM 52 (pcs 0 0 false) (λg1=>?_)
 refine sA ?_
 refine sS (pv x y i) (qL 0 g0 0 9 52 52 (pcs x y i) rfl Tryz.underlying52) ?_
 obtain ⟨b1,hb1⟩:∃ z:Bool,z=Am x y i:=⟨_,rfl⟩
 refine sS (.bool b1) (qF 111 #[pv x y i] (by rw [hb1]; exact λw=>JU w x y i lK lK))<|sP (.bool b1) ?_
 refine sG<|Sy.seq<|sC ?_
 refine sP (.bool b1) ?_
 cases b1
 ·refine sP (.bool true) ?_
  refine sG<|sT<|sC ?_
  refine sS (pv 0 0 true) (qF 65 #[] (Fj))<|sW 1 g1 52 (pcs 0 0 false) (pcs 0 0 true) (wS 0 52 (pcs 0 0 true) rfl) ?_
  refine sG<|Sy.ret<|Sy.then_ret ?_
  rw [show (ptv (dec x y i):Value)=pv 0 0 true from Ht x y i hb1.symm]
  exact rC (v:=pv 0 0 true) 52 g1 1 (pcs 0 0 true) rfl Tryz.underlying52
 ·refine sP (.bool false) ?_
  refine sG<|sU<|Sy.skip<|sB ?_
  refine sS (pv x y i) (qL 0 g0 0 9 52 52 (pcs x y i) rfl Tryz.underlying52)<|sW 1 g1 52 (pcs 0 0 false) (pcs x y i) (wS 0 52 (pcs x y i) rfl) ?_
  refine sG<|Sy.ret ?_
  rw [show (ptv (dec x y i):Value)=pv x y i from Hu x y i hb1.symm]
  exact rC (v:=pv x y i) 52 g1 1 (pcs x y i) rfl Tryz.underlying52
theorem Oi (w:World) (x y:Nat) (i:Bool) (x2 y2:Nat) (i2:Bool) (hx:x<K4) (hy:y<K4) (hx2:x2<K4) (hy2:y2<K4) (h:dec x y i=none) (k:dec x2 y2 i2=none):Calls Tryz.prog 86 #[pv x y i,pv x2 y2 i2] w (Gets w (ptv none)):=by
 refine Sy.enter (args:=[pv x y i,pv x2 y2 i2]) Tryz.func86 rfl kL ?_
 refine sC ?_
 refine sM 52 (pcs x y i) (λg0=>?_)
 refine sM 52 (pcs x2 y2 i2) (λg1=>?_)
 refine sM 52 (pcs 0 0 false) (λg2=>?_)
 refine sA ?_
 refine sS (pv x y i) (qL 0 g0 0 9 52 52 (pcs x y i) rfl Tryz.underlying52)<|sS (pv 0 0 true) (qF 58 #[pv x y i] (λw=>by have hrr:=Br w x y i lK lK; rw [h] at hrr; exact hrr))<|sW 0 g0 52 (pcs x y i) (pcs 0 0 true) (wS 0 52 (pcs 0 0 true) rfl) ?_
 refine sA ?_
 refine sS (pv x2 y2 i2) (qL 1 g1 0 9 52 52 (pcs x2 y2 i2) rfl Tryz.underlying52)<|sS (pv 0 0 true) (qF 58 #[pv x2 y2 i2] (λw=>by have hrr:=Br w x2 y2 i2 lK lK; rw [k] at hrr; exact hrr))<|sW 1 g1 52 (pcs x2 y2 i2) (pcs 0 0 true) (wS 0 52 (pcs 0 0 true) rfl) ?_
 refine sG<|Sy.seq<|sC ?_
 refine sP (.pointer (some ⟨g0,8,none⟩))<|sS (.bool true) (qC 0 g0 8 52 4 (pcs 0 0 true) rfl Tryz.underlying4) ?_
 refine sG<|sT<|sC ?_
 refine sS (pv 0 0 true) (qL 1 g1 0 9 52 52 (pcs 0 0 true) rfl Tryz.underlying52)<|sW 2 g2 52 (pcs 0 0 false) (pcs 0 0 true) (wS 0 52 (pcs 0 0 true) rfl) ?_
 refine sG<|Sy.ret<|Sy.then_ret ?_
 rw [show (ptv none:Value)=pv 0 0 true from rfl]
 exact rC (v:=pv 0 0 true) 52 g2 2 (pcs 0 0 true) rfl Tryz.underlying52
theorem Oh (w:World) (x y:Nat) (i:Bool) (x2 y2:Nat) (i2:Bool) (hx:x<K4) (hy:y<K4) (hx2:x2<K4) (hy2:y2<K4) (c d:Fp) (h:dec x y i=none) (k:dec x2 y2 i2=some (c,d)):Calls Tryz.prog 86 #[pv x y i,pv x2 y2 i2] w (Gets w (ptv (some (c,d)))):=by
 refine Sy.enter (args:=[pv x y i,pv x2 y2 i2]) Tryz.func86 rfl kL ?_
 refine sC ?_
 refine sM 52 (pcs x y i) (λg0=>?_)
 refine sM 52 (pcs x2 y2 i2) (λg1=>?_)
 refine sM 52 (pcs 0 0 false) (λg2=>?_)
 refine sA ?_
 refine sS (pv x y i) (qL 0 g0 0 9 52 52 (pcs x y i) rfl Tryz.underlying52)<|sS (pv 0 0 true) (qF 58 #[pv x y i] (λw=>by have hrr:=Br w x y i lK lK; rw [h] at hrr; exact hrr))<|sW 0 g0 52 (pcs x y i) (pcs 0 0 true) (wS 0 52 (pcs 0 0 true) rfl) ?_
 refine sA ?_
 refine sS (pv x2 y2 i2) (qL 1 g1 0 9 52 52 (pcs x2 y2 i2) rfl Tryz.underlying52)<|sS (pv c.val d.val false) (qF 58 #[pv x2 y2 i2] (λw=>by have hrr:=Br w x2 y2 i2 lK lK; rw [k] at hrr; exact hrr))<|sW 1 g1 52 (pcs x2 y2 i2) (pcs c.val d.val false) (wS 0 52 (pcs c.val d.val false) rfl) ?_
 refine sG<|Sy.seq<|sC ?_
 refine sP (.pointer (some ⟨g0,8,none⟩))<|sS (.bool true) (qC 0 g0 8 52 4 (pcs 0 0 true) rfl Tryz.underlying4) ?_
 refine sG<|sT<|sC ?_
 refine sS (pv c.val d.val false) (qL 1 g1 0 9 52 52 (pcs c.val d.val false) rfl Tryz.underlying52)<|sW 2 g2 52 (pcs 0 0 false) (pcs c.val d.val false) (wS 0 52 (pcs c.val d.val false) rfl) ?_
 refine sG<|Sy.ret<|Sy.then_ret ?_
 rw [show (ptv (some (c,d)):Value)=pv c.val d.val false from rfl]
 exact rC (v:=pv c.val d.val false) 52 g2 2 (pcs c.val d.val false) rfl Tryz.underlying52
theorem Og (w:World) (x y:Nat) (i:Bool) (x2 y2:Nat) (i2:Bool) (hx:x<K4) (hy:y<K4) (hx2:x2<K4) (hy2:y2<K4) (u v:Fp) (h:dec x y i=some (u,v)) (k:dec x2 y2 i2=none):Calls Tryz.prog 86 #[pv x y i,pv x2 y2 i2] w (Gets w (ptv (some (u,v)))):=by
 refine Sy.enter (args:=[pv x y i,pv x2 y2 i2]) Tryz.func86 rfl kL ?_
 refine sC ?_
 refine sM 52 (pcs x y i) (λg0=>?_)
 refine sM 52 (pcs x2 y2 i2) (λg1=>?_)
 refine sM 52 (pcs 0 0 false) (λg2=>?_)
 refine sA ?_
 refine sS (pv x y i) (qL 0 g0 0 9 52 52 (pcs x y i) rfl Tryz.underlying52)<|sS (pv u.val v.val false) (qF 58 #[pv x y i] (λw=>by have hrr:=Br w x y i lK lK; rw [h] at hrr; exact hrr))<|sW 0 g0 52 (pcs x y i) (pcs u.val v.val false) (wS 0 52 (pcs u.val v.val false) rfl) ?_
 refine sA ?_
 refine sS (pv x2 y2 i2) (qL 1 g1 0 9 52 52 (pcs x2 y2 i2) rfl Tryz.underlying52)<|sS (pv 0 0 true) (qF 58 #[pv x2 y2 i2] (λw=>by have hrr:=Br w x2 y2 i2 lK lK; rw [k] at hrr; exact hrr))<|sW 1 g1 52 (pcs x2 y2 i2) (pcs 0 0 true) (wS 0 52 (pcs 0 0 true) rfl) ?_
 refine sG<|Sy.seq<|sC ?_
 refine sP (.pointer (some ⟨g0,8,none⟩))<|sS (.bool false) (qC 0 g0 8 52 4 (pcs u.val v.val false) rfl Tryz.underlying4) ?_
 refine sG<|sU<|Sy.skip<|Sy.then_<|Sy.seq<|sC ?_
 refine sP (.pointer (some ⟨g1,8,none⟩))<|sS (.bool true) (qC 1 g1 8 52 4 (pcs 0 0 true) rfl Tryz.underlying4) ?_
 refine sG<|sT<|sC ?_
 refine sS (pv u.val v.val false) (qL 0 g0 0 9 52 52 (pcs u.val v.val false) rfl Tryz.underlying52)<|sW 2 g2 52 (pcs 0 0 false) (pcs u.val v.val false) (wS 0 52 (pcs u.val v.val false) rfl) ?_
 refine sG<|Sy.ret<|Sy.then_ret ?_
 rw [show (ptv (some (u,v)):Value)=pv u.val v.val false from rfl]
 exact rC (v:=pv u.val v.val false) 52 g2 2 (pcs u.val v.val false) rfl Tryz.underlying52
theorem Oe (w:World) (x y:Nat) (i:Bool) (x2 y2:Nat) (i2:Bool) (hx:x<K4) (hy:y<K4) (hx2:x2<K4) (hy2:y2<K4) (u v c d:Fp) (h:dec x y i=some (u,v)) (k:dec x2 y2 i2=some (c,d)) (ho:v*v=u*u*u+7) (hk:d*d=c*c*c+7):Calls Tryz.prog 86 #[pv x y i,pv x2 y2 i2] w (Gets w (ptv (Ec.add Ac (some (u,v)) (some (c,d))))):=by
 refine Sy.enter (args:=[pv x y i,pv x2 y2 i2]) Tryz.func86 rfl kL ?_
 refine sC ?_
 refine sM 52 (pcs x y i) (λg0=>?_)
 refine sM 52 (pcs x2 y2 i2) (λg1=>?_)
 refine sM 52 (pcs 0 0 false) (λg2=>?_)
 refine sA ?_
 refine sS (pv x y i) (qL 0 g0 0 9 52 52 (pcs x y i) rfl Tryz.underlying52)<|sS (pv u.val v.val false) (qF 58 #[pv x y i] (λw=>by have hrr:=Br w x y i lK lK; rw [h] at hrr; exact hrr))<|sW 0 g0 52 (pcs x y i) (pcs u.val v.val false) (wS 0 52 (pcs u.val v.val false) rfl) ?_
 refine sA ?_
 refine sS (pv x2 y2 i2) (qL 1 g1 0 9 52 52 (pcs x2 y2 i2) rfl Tryz.underlying52)<|sS (pv c.val d.val false) (qF 58 #[pv x2 y2 i2] (λw=>by have hrr:=Br w x2 y2 i2 lK lK; rw [k] at hrr; exact hrr))<|sW 1 g1 52 (pcs x2 y2 i2) (pcs c.val d.val false) (wS 0 52 (pcs c.val d.val false) rfl) ?_
 refine sG<|Sy.seq<|sC ?_
 refine sP (.pointer (some ⟨g0,8,none⟩))<|sS (.bool false) (qC 0 g0 8 52 4 (pcs u.val v.val false) rfl Tryz.underlying4) ?_
 refine sG<|sU<|Sy.skip<|Sy.then_<|Sy.seq<|sC ?_
 refine sP (.pointer (some ⟨g1,8,none⟩))<|sS (.bool false) (qC 1 g1 8 52 4 (pcs c.val d.val false) rfl Tryz.underlying4) ?_
 refine sG<|sU<|Sy.skip<|sB ?_
 refine sP (.pointer (some ⟨g0,0,none⟩))<|sS (fv u.val) (qL 0 g0 0 4 52 50 (pcs u.val v.val false) rfl Tryz.underlying50)<|sS (fv u.val) (qF 62 #[fv u.val] (λw=>refOf_any w u.val lK)) ?_
 refine sM 98 (fcs 0) (λg3=>?_)
 refine sW 3 g3 98 (fcs 0) (fcs u.val) (wS 0 98 (fcs u.val) rfl) ?_
 refine sA ?_
 refine sP (.pointer (some ⟨g0,4,none⟩))<|sS (fv v.val) (qL 0 g0 4 4 52 50 (pcs u.val v.val false) rfl Tryz.underlying50)<|sS (fv v.val) (qF 62 #[fv v.val] (λw=>refOf_any w v.val lK)) ?_
 refine sM 98 (fcs 0) (λg4=>?_)
 refine sW 4 g4 98 (fcs 0) (fcs v.val) (wS 0 98 (fcs v.val) rfl) ?_
 refine sA ?_
 refine sP (.pointer (some ⟨g1,0,none⟩))<|sS (fv c.val) (qL 1 g1 0 4 52 50 (pcs c.val d.val false) rfl Tryz.underlying50)<|sS (fv c.val) (qF 62 #[fv c.val] (λw=>refOf_any w c.val lK)) ?_
 refine sM 98 (fcs 0) (λg5=>?_)
 refine sW 5 g5 98 (fcs 0) (fcs c.val) (wS 0 98 (fcs c.val) rfl) ?_
 refine sA ?_
 refine sP (.pointer (some ⟨g1,4,none⟩))<|sS (fv d.val) (qL 1 g1 4 4 52 50 (pcs c.val d.val false) rfl Tryz.underlying50)<|sS (fv d.val) (qF 62 #[fv d.val] (λw=>refOf_any w d.val lK)) ?_
 refine sM 98 (fcs 0) (λg6=>?_)
 refine sW 6 g6 98 (fcs 0) (fcs d.val) (wS 0 98 (fcs d.val) rfl) ?_
 refine sA ?_
 refine sS (fv d.val) (qL 6 g6 0 4 98 98 (fcs d.val) rfl Tryz.underlying98)<|sS (fv v.val) (qL 4 g4 0 4 98 98 (fcs v.val) rfl Tryz.underlying98) ?_
 obtain ⟨z1,hz1⟩:∃ z:Fp,z=d - v:=⟨_,rfl⟩
 refine sS (fv z1.val) (qF 122 #[fv d.val,fv v.val] (λw=>by rw [hz1]; exact Ba w d v)) ?_
 refine sM 98 (fcs 0) (λg7=>?_)
 refine sW 7 g7 98 (fcs 0) (fcs z1.val) (wS 0 98 (fcs z1.val) rfl) ?_
 refine sA ?_
 refine sS (fv c.val) (qL 5 g5 0 4 98 98 (fcs c.val) rfl Tryz.underlying98)<|sS (fv u.val) (qL 3 g3 0 4 98 98 (fcs u.val) rfl Tryz.underlying98) ?_
 obtain ⟨z2,hz2⟩:∃ z:Fp,z=c - u:=⟨_,rfl⟩
 refine sS (fv z2.val) (qF 122 #[fv c.val,fv u.val] (λw=>by rw [hz2]; exact Ba w c u)) ?_
 refine sM 98 (fcs 0) (λg8=>?_)
 refine sW 8 g8 98 (fcs 0) (fcs z2.val) (wS 0 98 (fcs z2.val) rfl) ?_
 refine sG<|Sy.seq<|sC ?_
 refine sS (fv u.val) (qL 3 g3 0 4 98 98 (fcs u.val) rfl Tryz.underlying98)<|sS (fv c.val) (qL 5 g5 0 4 98 98 (fcs c.val) rfl Tryz.underlying98) ?_
 obtain ⟨b1,hb1⟩:∃ z:Bool,z=decide (u.val=c.val):=⟨_,rfl⟩
 refine sS (.bool b1) (Quiet.pure (λw=>by rw [hb1]; exact C6 w _ _ _ _ _ _ rfl rfl rfl lK lK)) ?_
 refine sG ?_
 cases b1
 ·have e1:u≠c:=λe=>of_decide_eq_false hb1.symm (congrArg Fin.val e)
  refine sU<|Sy.skip ?_
  refine sR (λj=>j == 6) ?_
  refine sD 0 rfl (fv z1.val) (qL 7 g7 0 4 98 98 (fcs z1.val) rfl Tryz.underlying98)<|sD 1 rfl (.agg Bh) (qF 67 #[] (Co))<|sD 2 rfl (fv z2.val) (qL 8 g8 0 4 98 98 (fcs z2.val) rfl Tryz.underlying98) ?_
  obtain ⟨z3,hz3⟩:∃ z:Fp,z=Ac z2:=⟨_,rfl⟩
  refine sD 3 rfl (fv z3.val) (qF 66 #[.agg Bh,fv z2.val] (λw=>by rw [hz3]; exact GP w z2)) ?_
  obtain ⟨z4,hz4⟩:∃ z:Fp,z=z1*z3:=⟨_,rfl⟩
  refine sD 4 rfl (fv z4.val) (qF 68 #[fv z1.val,fv z3.val] (λw=>by rw [hz4]; exact Aw w z1 z3)) ?_
  refine sO 5 rfl 98 (fcs 0) (λg9=>?_)
  refine sX 6 rfl 9 g9 98 (fcs 0) (fcs z4.val) (wS 0 98 (fcs z4.val) rfl) ?_
  refine sE ?_
  refine sR (λj=>j == 8) ?_
  refine sD 0 rfl (fv z4.val) (qL 9 g9 0 4 98 98 (fcs z4.val) rfl Tryz.underlying98)<|sD 1 rfl (fv z4.val) (qL 9 g9 0 4 98 98 (fcs z4.val) rfl Tryz.underlying98) ?_
  obtain ⟨z5,hz5⟩:∃ z:Fp,z=z4*z4:=⟨_,rfl⟩
  refine sD 2 rfl (fv z5.val) (qF 68 #[fv z4.val,fv z4.val] (λw=>by rw [hz5]; exact Aw w z4 z4))<|sD 3 rfl (fv u.val) (qL 3 g3 0 4 98 98 (fcs u.val) rfl Tryz.underlying98) ?_
  obtain ⟨z6,hz6⟩:∃ z:Fp,z=z5 - u:=⟨_,rfl⟩
  refine sD 4 rfl (fv z6.val) (qF 122 #[fv z5.val,fv u.val] (λw=>by rw [hz6]; exact Ba w z5 u))<|sD 5 rfl (fv c.val) (qL 5 g5 0 4 98 98 (fcs c.val) rfl Tryz.underlying98) ?_
  obtain ⟨z7,hz7⟩:∃ z:Fp,z=z6 - c:=⟨_,rfl⟩
  refine sD 6 rfl (fv z7.val) (qF 122 #[fv z6.val,fv c.val] (λw=>by rw [hz7]; exact Ba w z6 c)) ?_
  refine sO 7 rfl 98 (fcs 0) (λg10=>?_)
  refine sX 8 rfl 10 g10 98 (fcs 0) (fcs z7.val) (wS 0 98 (fcs z7.val) rfl) ?_
  refine sE ?_
  refine sR (λj=>j == 9) ?_
  refine sD 0 rfl (fv z7.val) (qL 10 g10 0 4 98 98 (fcs z7.val) rfl Tryz.underlying98)<|sD 1 rfl (fv z4.val) (qL 9 g9 0 4 98 98 (fcs z4.val) rfl Tryz.underlying98)<|sD 2 rfl (fv u.val) (qL 3 g3 0 4 98 98 (fcs u.val) rfl Tryz.underlying98)<|sD 3 rfl (fv z7.val) (qL 10 g10 0 4 98 98 (fcs z7.val) rfl Tryz.underlying98) ?_
  obtain ⟨z8,hz8⟩:∃ z:Fp,z=u - z7:=⟨_,rfl⟩
  refine sD 4 rfl (fv z8.val) (qF 122 #[fv u.val,fv z7.val] (λw=>by rw [hz8]; exact Ba w u z7)) ?_
  obtain ⟨z9,hz9⟩:∃ z:Fp,z=z4*z8:=⟨_,rfl⟩
  refine sD 5 rfl (fv z9.val) (qF 68 #[fv z4.val,fv z8.val] (λw=>by rw [hz9]; exact Aw w z4 z8))<|sD 6 rfl (fv v.val) (qL 4 g4 0 4 98 98 (fcs v.val) rfl Tryz.underlying98) ?_
  obtain ⟨z10,hz10⟩:∃ z:Fp,z=z9 - v:=⟨_,rfl⟩
  refine sD 7 rfl (fv z10.val) (qF 122 #[fv z9.val,fv v.val] (λw=>by rw [hz10]; exact Ba w z9 v))<|sD 8 rfl (pv z7.val z10.val false) (qF 69 #[fv z7.val,fv z10.val] (λw=>GW w z7.val z10.val lK lK))<|sX 9 rfl 2 g2 52 (pcs 0 0 false) (pcs z7.val z10.val false) (wS 0 52 (pcs z7.val z10.val false) rfl) ?_
  refine sI ?_
  refine Sy.ret ?_
  have ha:¬ (u=c∧v+d=0):=λt=>e1 t.1
  have hs:z4=Ec.slp Ac u v c d:=by
   unfold Ec.slp
   rw [if_neg e1]
   clear h k ho hk hb1 ha e1
   grobner
  rw [show (ptv (Ec.add Ac (some (u,v)) (some (c,d))):Value)=pv z7.val z10.val false from by simp only [Ec.add]; rw [if_neg ha, ← hs]; unfold Ec.y3 Ec.x3 ptv; rw [hz10,hz9,hz8,hz7,hz6,hz5]]
  exact rC (v:=pv z7.val z10.val false) 52 g2 2 (pcs z7.val z10.val false) rfl Tryz.underlying52
 ·have e1:u=c:=Fin.ext (of_decide_eq_true hb1.symm)
  refine sT<|Sy.seq<|sC ?_
  refine sS (fv v.val) (qL 4 g4 0 4 98 98 (fcs v.val) rfl Tryz.underlying98)<|sS (fv d.val) (qL 6 g6 0 4 98 98 (fcs d.val) rfl Tryz.underlying98) ?_
  obtain ⟨b2,hb2⟩:∃ z:Bool,z=decide (v.val≠d.val):=⟨_,rfl⟩
  refine sS (.bool b2) (Quiet.pure (λw=>by rw [hb2]; exact PX w _ _ _ _ _ _ rfl rfl rfl lK lK))<|sP (.bool b2) ?_
  cases b2
  ·have e2:v=d:=Fin.ext (Decidable.of_not_not (of_decide_eq_false hb2.symm))
   refine sS (fv v.val) (qL 4 g4 0 4 98 98 (fcs v.val) rfl Tryz.underlying98)<|sP (fv 0) ?_
   obtain ⟨b3,hb3⟩:∃ z:Bool,z=decide (v.val=0):=⟨_,rfl⟩
   refine sS (.bool b3) (Quiet.pure (λw=>by rw [hb3]; exact C6 w _ _ _ _ _ _ rfl rfl rfl lK lK))<|sP (.bool b3) ?_
   refine sG ?_
   cases b3
   ·refine sU<|Sy.skip<|sB ?_
    refine sS (fv u.val) (qL 3 g3 0 4 98 98 (fcs u.val) rfl Tryz.underlying98)<|sS (fv u.val) (qL 3 g3 0 4 98 98 (fcs u.val) rfl Tryz.underlying98) ?_
    obtain ⟨z11,hz11⟩:∃ z:Fp,z=u*u:=⟨_,rfl⟩
    refine sS (fv z11.val) (qF 68 #[fv u.val,fv u.val] (λw=>by rw [hz11]; exact Aw w u u)) ?_
    refine sM 98 (fcs 0) (λg9=>?_)
    refine sW 9 g9 98 (fcs 0) (fcs z11.val) (wS 0 98 (fcs z11.val) rfl) ?_
    refine sH (λj=>j == 5) ?_
    refine sD 0 rfl (fv z11.val) (qL 9 g9 0 4 98 98 (fcs z11.val) rfl Tryz.underlying98)<|sD 1 rfl (fv z11.val) (qL 9 g9 0 4 98 98 (fcs z11.val) rfl Tryz.underlying98)<|sD 2 rfl (fv z11.val) (qL 9 g9 0 4 98 98 (fcs z11.val) rfl Tryz.underlying98) ?_
    obtain ⟨z12,hz12⟩:∃ z:Fp,z=z11+z11:=⟨_,rfl⟩
    refine sD 3 rfl (fv z12.val) (qF 121 #[fv z11.val,fv z11.val] (λw=>by rw [hz12]; exact CA w z11 z11)) ?_
    obtain ⟨z13,hz13⟩:∃ z:Fp,z=z11+z12:=⟨_,rfl⟩
    refine sD 4 rfl (fv z13.val) (qF 121 #[fv z11.val,fv z12.val] (λw=>by rw [hz13]; exact CA w z11 z12))<|sX 5 rfl 7 g7 98 (fcs z1.val) (fcs z13.val) (wS 0 98 (fcs z13.val) rfl) ?_
    refine sI ?_
    refine Sy.region ?_
    refine sS (fv v.val) (qL 4 g4 0 4 98 98 (fcs v.val) rfl Tryz.underlying98)<|sS (fv v.val) (qL 4 g4 0 4 98 98 (fcs v.val) rfl Tryz.underlying98) ?_
    obtain ⟨z14,hz14⟩:∃ z:Fp,z=v+v:=⟨_,rfl⟩
    refine sS (fv z14.val) (qF 121 #[fv v.val,fv v.val] (λw=>by rw [hz14]; exact CA w v v))<|sW 8 g8 98 (fcs z2.val) (fcs z14.val) (wS 0 98 (fcs z14.val) rfl) ?_
    refine sH (λj=>j == 6) ?_
    refine sD 0 rfl (fv z13.val) (qL 7 g7 0 4 98 98 (fcs z13.val) rfl Tryz.underlying98)<|sD 1 rfl (.agg Bh) (qF 67 #[] (Co))<|sD 2 rfl (fv z14.val) (qL 8 g8 0 4 98 98 (fcs z14.val) rfl Tryz.underlying98) ?_
    obtain ⟨z15,hz15⟩:∃ z:Fp,z=Ac z14:=⟨_,rfl⟩
    refine sD 3 rfl (fv z15.val) (qF 66 #[.agg Bh,fv z14.val] (λw=>by rw [hz15]; exact GP w z14)) ?_
    obtain ⟨z16,hz16⟩:∃ z:Fp,z=z13*z15:=⟨_,rfl⟩
    refine sD 4 rfl (fv z16.val) (qF 68 #[fv z13.val,fv z15.val] (λw=>by rw [hz16]; exact Aw w z13 z15)) ?_
    refine sO 5 rfl 98 (fcs 0) (λg10=>?_)
    refine sX 6 rfl 10 g10 98 (fcs 0) (fcs z16.val) (wS 0 98 (fcs z16.val) rfl) ?_
    refine sE ?_
    refine sR (λj=>j == 8) ?_
    refine sD 0 rfl (fv z16.val) (qL 10 g10 0 4 98 98 (fcs z16.val) rfl Tryz.underlying98)<|sD 1 rfl (fv z16.val) (qL 10 g10 0 4 98 98 (fcs z16.val) rfl Tryz.underlying98) ?_
    obtain ⟨z17,hz17⟩:∃ z:Fp,z=z16*z16:=⟨_,rfl⟩
    refine sD 2 rfl (fv z17.val) (qF 68 #[fv z16.val,fv z16.val] (λw=>by rw [hz17]; exact Aw w z16 z16))<|sD 3 rfl (fv u.val) (qL 3 g3 0 4 98 98 (fcs u.val) rfl Tryz.underlying98) ?_
    obtain ⟨z18,hz18⟩:∃ z:Fp,z=z17 - u:=⟨_,rfl⟩
    refine sD 4 rfl (fv z18.val) (qF 122 #[fv z17.val,fv u.val] (λw=>by rw [hz18]; exact Ba w z17 u))<|sD 5 rfl (fv c.val) (qL 5 g5 0 4 98 98 (fcs c.val) rfl Tryz.underlying98) ?_
    obtain ⟨z19,hz19⟩:∃ z:Fp,z=z18 - c:=⟨_,rfl⟩
    refine sD 6 rfl (fv z19.val) (qF 122 #[fv z18.val,fv c.val] (λw=>by rw [hz19]; exact Ba w z18 c)) ?_
    refine sO 7 rfl 98 (fcs 0) (λg11=>?_)
    refine sX 8 rfl 11 g11 98 (fcs 0) (fcs z19.val) (wS 0 98 (fcs z19.val) rfl) ?_
    refine sE ?_
    refine sR (λj=>j == 9) ?_
    refine sD 0 rfl (fv z19.val) (qL 11 g11 0 4 98 98 (fcs z19.val) rfl Tryz.underlying98)<|sD 1 rfl (fv z16.val) (qL 10 g10 0 4 98 98 (fcs z16.val) rfl Tryz.underlying98)<|sD 2 rfl (fv u.val) (qL 3 g3 0 4 98 98 (fcs u.val) rfl Tryz.underlying98)<|sD 3 rfl (fv z19.val) (qL 11 g11 0 4 98 98 (fcs z19.val) rfl Tryz.underlying98) ?_
    obtain ⟨z20,hz20⟩:∃ z:Fp,z=u - z19:=⟨_,rfl⟩
    refine sD 4 rfl (fv z20.val) (qF 122 #[fv u.val,fv z19.val] (λw=>by rw [hz20]; exact Ba w u z19)) ?_
    obtain ⟨z21,hz21⟩:∃ z:Fp,z=z16*z20:=⟨_,rfl⟩
    refine sD 5 rfl (fv z21.val) (qF 68 #[fv z16.val,fv z20.val] (λw=>by rw [hz21]; exact Aw w z16 z20))<|sD 6 rfl (fv v.val) (qL 4 g4 0 4 98 98 (fcs v.val) rfl Tryz.underlying98) ?_
    obtain ⟨z22,hz22⟩:∃ z:Fp,z=z21 - v:=⟨_,rfl⟩
    refine sD 7 rfl (fv z22.val) (qF 122 #[fv z21.val,fv v.val] (λw=>by rw [hz22]; exact Ba w z21 v))<|sD 8 rfl (pv z19.val z22.val false) (qF 69 #[fv z19.val,fv z22.val] (λw=>GW w z19.val z22.val lK lK))<|sX 9 rfl 2 g2 52 (pcs 0 0 false) (pcs z19.val z22.val false) (wS 0 52 (pcs z19.val z22.val false) rfl) ?_
    refine sI ?_
    refine Sy.ret ?_
    have ha:¬ (u=c∧v+d=0):=λt=>Ks u v ho (fld.two v (e2 ▸ t.2))
    have hs:z16=Ec.slp Ac u v c d:=by
     unfold Ec.slp
     rw [if_pos e1]
     clear h k ho hk hb1 hb2 hb3 ha e1 e2
     grobner
    rw [show (ptv (Ec.add Ac (some (u,v)) (some (c,d))):Value)=pv z19.val z22.val false from by simp only [Ec.add]; rw [if_neg ha, ← hs]; unfold Ec.y3 Ec.x3 ptv; rw [hz22,hz21,hz20,hz19,hz18,hz17]]
    exact rC (v:=pv z19.val z22.val false) 52 g2 2 (pcs z19.val z22.val false) rfl Tryz.underlying52
   ·exact absurd (Fin.ext (of_decide_eq_true hb3.symm)) (Ks u v ho)
  ·have e2:v≠d:=λe=>of_decide_eq_true hb2.symm (congrArg Fin.val e)
   refine sN<|sN<|sN ?_
   refine sP (.bool true) ?_
   refine sG<|sT<|sC ?_
   refine sS (pv 0 0 true) (qF 65 #[] (Fj))<|sW 2 g2 52 (pcs 0 0 false) (pcs 0 0 true) (wS 0 52 (pcs 0 0 true) rfl) ?_
   refine sG<|Sy.ret<|Sy.then_ret<|Sy.then_ret ?_
   rw [show (ptv (Ec.add Ac (some (u,v)) (some (c,d))):Value)=pv 0 0 true from by simp only [Ec.add]; rw [if_pos ⟨e1,Classical.byContradiction λt=>Ec.off fld ho hk (λq=>e2 q.2) (λq=>t q.2) e1⟩]; rfl]
   exact rC (v:=pv 0 0 true) 52 g2 2 (pcs 0 0 true) rfl Tryz.underlying52
theorem M_ (w:World) (x y:Nat) (i:Bool) (x2 y2:Nat) (i2:Bool) (hx:x<K4) (hy:y<K4) (hx2:x2<K4) (hy2:y2<K4):Calls Tryz.prog 86 #[pv x y i,pv x2 y2 i2] w (Gets w (ptv (Ec.add Ac (dec x y i) (dec x2 y2 i2)))):=by
 have o1:=FN x y i
 have o2:=FN x2 y2 i2
 rcases h:dec x y i with _ | ⟨u,v⟩ <;> rcases k:dec x2 y2 i2 with _ | ⟨c,d⟩
 ·exact Oi w x y i x2 y2 i2 hx hy hx2 hy2 h k
 ·exact Oh w x y i x2 y2 i2 hx hy hx2 hy2 c d h k
 ·exact Og w x y i x2 y2 i2 hx hy hx2 hy2 u v h k
 ·rw [h] at o1
  rw [k] at o2
  exact Oe w x y i x2 y2 i2 hx hy hx2 hy2 u v c d h k o1 o2
end Cu
end
end Go.Proofs.YtlooclodlpcglaaGreatDoor
