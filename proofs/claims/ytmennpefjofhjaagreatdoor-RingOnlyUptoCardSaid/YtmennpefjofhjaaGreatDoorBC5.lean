/-
  Texts of ours, put together: RingE, SymY, SymR, SymQ, SymW, TxsW, RingI, SymU, RingJ, RingH, RingK, RingL, SymS, RingM, SymP, RingF, RingN, SymM, EnA, EnB, EnC.
-/
import Derived.Test.YtmennpefjofhjaaGreatDoorBC4
set_option linter.unusedVariables false
set_option linter.unusedSimpArgs false
namespace Go.Proofs.YtmennpefjofhjaaGreatDoor
section
namespace Cu
open Go.RowKit Sy
set_option maxRecDepth 100000
set_option maxHeartbeats 4000000
def badR (n:Nat→Nat) (X Y:Nat→Nat→Nat) (I:Nat→Nat→Bool) (i:Nat):Bool:=(List.range (n i)).any (badK (X i) (Y i) (I i))
theorem ixr_any (w:World) (R:Option Addr) (NR cR:Nat) (a:Nat→Option Addr) (n c:Nat→Nat) (X Y:Nat→Nat→Nat) (I:Nat→Nat→Bool) (hX:∀ i k,X i k<K4) (hY:∀ i k,Y i k<K4) (hNR:NR≤4611686018427387904) (hn:∀ i,n i≤4611686018427387904) (hlr:Lst w 1 R NR (λi=>[.slice (a i) (n i) (c i)])) (hlk:∀ i,i<NR→Lst w 9 (a i) (n i) (λk=>pml (X i k) (Y i k) (I i k))):Calls Tryz.prog 163 #[.slice R NR cR,.func (.func 103) #[] #[]] w (Gets w (.int .i64 (ixB NR (badR n X Y I)))):=by
 have hlr0:=hlr
 obtain ⟨gR,oR,hR⟩:=hlr
 refine Sy.enter (args:=[.slice R NR cR,.func (.func 103) #[] #[]]) Tryz.func163 rfl kL ?_
 refine sC ?_
 refine sP (.int .i64 0) ?_
 refine sG<|Sy.seq<|sC ?_
 refine sP (.slice R NR cR)<|sP (.int .i64 ((NR:Nat):Int))<|sP (.int .i64 0) ?_
 refine sG<|Sy.block ?_
 refine Sy.loopH NR (λk1=>∀ a,a<k1→badR n X Y I a=false) (λk1=>[(0,.slice R NR cR),(1,.func (.func 103) #[] #[]),(7,.int .i64 ((NR:Nat):Int)),(8,.int .i64 ((k1:Nat):Int))]) (λk1=>[]) [] (M:=[]) (λa ha=>absurd ha (Nat.not_lt_zero _)) (all_cons kR (all_cons kR (all_cons kR (all_cons kR all_nil)))) kR rfl (λk1 hk1 hh=>?_)
 have hh1:=hh
 refine sC ?_
 obtain ⟨b1,hb1⟩:∃ z:Bool,z=decide (k1<NR):=⟨_,rfl⟩
 refine sS (.bool b1) (Quiet.pure (exec_int .lss _ _ _ .i64 _ _ _ rfl rfl rfl (int_lss _ _ _ _ _ (by rw [hb1]; exact decide_eq_decide.2 (by omega))))) ?_
 refine sG<|Sy.seq ?_
 cases b1
 ·have lb1:¬ (k1<NR):=of_decide_eq_false hb1.symm
  refine sU<|Sy.exit<|Sy.then_exit<|Sy.then_exit ?_
  obtain rfl:NR=k1:=by omega
  refine Sy.in_exit<|sB ?_
  refine sP (.int .i64 (-1)) ?_
  refine sG<|Sy.ret ?_
  rw [show (.int .i64 (ixB NR (badR n X Y I)):Value)=.int .i64 (-1) from by rw [ixB_no (λa ha=>hh1 a (by omega))]]
  exact rV (.int .i64 (-1)) rfl
 ·have lb1:k1<NR:=of_decide_eq_true hb1.symm
  refine sT<|Sy.skip<|Sy.then_<|Sy.seq<|Sy.block<|sC ?_
  refine sP (.int .i64 ((k1:Nat):Int))<|sP (.int .i64 ((k1:Nat):Int)) ?_
  refine sA ?_
  refine sP (.func (.func 103) #[] #[])<|sP (.slice R NR cR)<|sP (.int .i64 ((k1:Nat):Int))<|sS (.pointer (some ⟨gR,oR+k1*1,none⟩)) (Quiet.pure (exec_atO 25 _ _ _ R gR oR NR cR k1 1 .i64 (hR (by omega)).1 rfl rfl rfl Tryz.underlying25 kF (by omega)))<|sS (.slice (a k1) (n k1) (c k1)) (Quiet.thereOne gR (oR+k1*1) 45 _ _ rfl kR (hR (by omega)).2.1 _ (range_one ((hR (by omega)).2.2 k1 (by omega)) 0 rfl) Tryz.underlying45 rfl) ?_
  obtain ⟨b2,hb2⟩:∃ z:Bool,z=badR n X Y I k1:=⟨_,rfl⟩
  refine sS (.bool b2) (qG 103 #[.slice (a k1) (n k1) (c k1)] (λw hw=>by rw [hb2]; exact bad_any w _ _ _ _ _ _ (hX k1) (hY k1) (hn k1) ((hlk k1 (by omega)).below hw.below))) ?_
  refine sG ?_
  cases b2
  ·refine sU<|Sy.skip<|Sy.in_<|Sy.then_<|Sy.region ?_
   refine sS (.int .i64 ((k1+1:Nat):Int)) (Quiet.pure (exec_int .add _ _ _ .i64 _ _ _ rfl rfl rfl (int_add _ _ _ _ _ ((wrap_i64 (by omega) (by omega)).trans (by omega)))))<|sP (.int .i64 ((k1+1:Nat):Int)) ?_
   refine Sy.nil ?_
   exact Sy.againH [] (M:=[]) (by omega) (λa ha=>(Nat.lt_succ_iff_lt_or_eq.1 ha).elim (hh1 a) (λh=>by rw [h]; exact hb2.symm)) (all_cons kR (all_cons kR (all_cons kR (all_cons kR all_nil)))) kR rfl
  ·refine sT<|sC ?_
   refine sP (.int .i64 ((k1:Nat):Int))<|sP (.int .i64 ((k1:Nat):Int)) ?_
   refine sG<|Sy.ret<|Sy.in_ret<|Sy.then_ret<|Sy.then_ret<|Sy.in_ret<|Sy.then_ret ?_
   rw [show (.int .i64 (ixB NR (badR n X Y I)):Value)=.int .i64 ((k1:Nat):Int) from by rw [ixB_at (by omega) hh1 hb2.symm]]
   exact rV (.int .i64 ((k1:Nat):Int)) rfl
theorem cnr_any (w:World) (R:Option Addr) (NR cR:Nat) (a:Nat→Option Addr) (n c:Nat→Nat) (X Y:Nat→Nat→Nat) (I:Nat→Nat→Bool) (hX:∀ i k,X i k<K4) (hY:∀ i k,Y i k<K4) (hNR:NR≤4611686018427387904) (hn:∀ i,n i≤4611686018427387904) (hlr:Lst w 1 R NR (λi=>[.slice (a i) (n i) (c i)])) (hlk:∀ i,i<NR→Lst w 9 (a i) (n i) (λk=>pml (X i k) (Y i k) (I i k))):Calls Tryz.prog 102 #[.slice R NR cR,.func (.func 103) #[] #[]] w (Gets w (.bool ((List.range NR).any (badR n X Y I)))):=by
 have hlr0:=hlr
 obtain ⟨gR,oR,hR⟩:=hlr
 refine Sy.enter (args:=[.slice R NR cR,.func (.func 103) #[] #[]]) Tryz.func102 rfl kL ?_
 refine sC ?_
 refine sP (.bool false) ?_
 refine sA ?_
 refine sP (.slice R NR cR)<|sP (.func (.func 103) #[] #[])<|sS (.int .i64 (ixB NR (badR n X Y I))) (Quiet.callS 163 #[.slice R NR cR,.func (.func 103) #[] #[]] kF (λw hw=>ixr_any w R NR cR a n c X Y I hX hY hNR hn (hlr0.below hw.below) (λi hi=>(hlk i hi).below hw.below))) ?_
 obtain ⟨b1,hb1⟩:∃ z:Bool,z=decide ((ixB NR (badR n X Y I)) ≥ 0):=⟨_,rfl⟩
 refine sS (.bool b1) (Quiet.pure (exec_int .geq _ _ _ .i64 _ _ _ rfl rfl rfl (int_geq _ _ _ _ _ hb1.symm)))<|sP (.bool b1) ?_
 refine sG<|Sy.ret ?_
 rw [show (.bool ((List.range NR).any (badR n X Y I)):Value)=.bool b1 from by rw [← ixB_any,hb1]]
 exact rV (.bool b1) rfl
end Cu
end
section
namespace Sy
open Go.RowKit
theorem St.perm {w0:Base} {w:World} {L M:Blocks} (h:St w0 w L) (p:L.Perm M):St w0 w M :=
 ⟨h.below,λg t cs hm=>h.blk g t cs (p.mem_iff.2 hm),(p.map _).nodup_iff.1 h.apart,h.size,h.non⟩
theorem perm_at {α:Type _} {l m:List α} (is:List Nat) (hi:is.isPerm (List.range l.length)=true) (hm:is.map (λi=>l[i]?)=m.map some):l.Perm m:=by
 have h1:(is.map (λi=>l[i]?)).Perm ((List.range l.length).map (λi=>l[i]?)):=(List.isPerm_iff.1 hi).map _
 have h2:(List.range l.length).map (λi=>l[i]?)=l.map some:=by
  refine List.ext_getElem (by simp) λi h _=>?_
  simp only [List.getElem_map,List.getElem_range]
  exact List.getElem?_eq_getElem (by simpa using h)
 rw [hm,h2] at h1
 have h3:=h1.filterMap id
 simpa [List.filterMap_map] using h3.symm
section
variable {P:Program} {w0:Base} {n:Nat} {Q:Exit→Act→World→Prop} {F:Slots} {L:Blocks} {ops:Array Oper} {ex:Nat→Bool} {fuel:Nat} {listed:Array Bool}
end
end Sy
end
section
namespace Sy
open Go.RowKit
section
variable {P:Program} {w0:Base} {n:Nat} {Q:Exit→Act→World→Prop} {F:Slots} {L:Blocks} {ops:Array Oper} {o:Oper} {l:List Oper}
def From (w0:Base) (L:Blocks) (A:Option Addr) (news:List Value):Prop:=∀ w,St w0 w L→(news=[]∨∃ a,A=some a∧∀ j u,news[j]? = some u→w.cell? (a.add j)=some u)
theorem From.blk {i g f:Nat} {t:TypeId} {cs:Array Value} {news:List Value} (hL:L[i]? = some (g,t,cs)) (hn:(cs.toList.drop f).take news.length=news):From w0 L (some ⟨g,f,none⟩) news:=λw hw =>
 .inr ⟨_,rfl,λj u hj=>by
  rw [addr_off]
  exact blk_range (hw.get hL) hn j u hj⟩
theorem appendG (hg:good ops n F o=true) (ts e:TypeId) (inf:TypeInfo) (z:Value) (sz by_:Nat) (ht:P.underlying ts=some (.slice e)) (hinf:P.info? e=some inf) (hz:inf.zero=some z) (hs1:inf.size=sz) (hb1:inf.bytes=by_) (hzs:z.cells.size=sz) (h0:0<sz)
  (s x:Operand) (ho:o.op=.call { callee:=.builtin .append,args:=#[s,x],argTypes:=#[ts,ts] })
  (i g len cap:Nat) (old sp:List Value) (hs:evF F s=.slice (some ⟨g,0,none⟩) len cap) (hL:L[i]? = some (g,e,(old++sp).toArray)) (hlen:old.length=len*sz) (hsp:sp.length+len*sz=cap*sz) (hmax:cap≤maxLen)
  (A:Option Addr) (m c:Nat) (news:List Value) (hx:evF F x=.slice A m c) (hf:From w0 L A news) (hm:news.length=m*sz) (hmc:m≤c) (h1:∀ u∈news,u.oneCell'=true) (hsmall:(len+m)*by_≤140737488355328) (h63:len+m≤maxLen)
  (h:∀ (g' cap':Nat) (sp':List Value),sp'.length+(len+m)*sz=cap'*sz→len+m≤cap'→cap'≤maxLen→wpS P w0 n ops Q (putF F o.dst (.slice (some ⟨g',0,none⟩) (len+m) cap')) (L.set i (g',e,(old++news++sp').toArray)) l):wpS P w0 n ops Q F L (o::l):=λa w ha hw=>by
 obtain ⟨k1,_,k3,_⟩:=good_spec hg
 refine wpList_step λK hK=>?_
 rw [if_pos (ha.wanted k1)]
 have hb:=hw.get hL
 have hle:len≤cap:=Nat.le_of_mul_le_mul_right (by omega) h0
 have step:∀ v' w',(Builtin.append_ #[ts,ts] o.type #[.slice (some ⟨g,0,none⟩) len cap,.slice A m c]).run P w=.ok v' w'→K (a.put o.dst v') w'→o.wp P a w K Q:=λv' w' hr hk=>by
  unfold Oper.wp
  rw [good_exec hg ha]
  unfold execOp
  simp only [ho,resolve,invoke,builtin,Sem.run_bind,Sem.run_pure,Result.andThen_ok,List.map_toArray,List.map_cons,List.map_nil,hs,hx,hr]
  exact hk
 rcases hf w hw with rfl | ⟨ad,rfl,hn⟩
 ·have hm0:m=0:=by
   rcases Nat.eq_zero_or_pos m with h | h
   ·exact h
   ·have:=Nat.mul_pos h h0
    simp at hm
    omega
  subst hm0
  have hr:(Builtin.append_ #[ts,ts] o.type #[.slice (some ⟨g,0,none⟩) len cap,.slice A 0 c]).run P w=.ok (.slice (some ⟨g,0,none⟩) len cap) w:=by
   have hfc:(Builtin.firstCells inf.size 0 (.slice A 0 c)).run P w=.ok #[] w:=by
    cases A with
    | none=>simp [Builtin.firstCells,Sem.run_pure]
    | some a=>simpa using run_firstCells_some (P:=P) w inf.size 0 a 0 c [] (by simp) (λj u hj=>by cases hj)
   have hst:∀ a:Addr,(storeCells a []).run P w=.ok () w:=λa=>by simp [storeCells,Sem.run_pure]
   simp [Builtin.append_,run_underlying ht,sizeOf,typeInfo,hinf,hle,Builtin.lenOf,hfc,hst]
  refine step _ w hr ?_
  have hset:L.set i (g,e,(old++[]++sp).toArray)=L:=by
   rw [List.append_nil]
   refine List.ext_getElem? λj=>?_
   rw [List.getElem?_set]
   by_cases e':i=j
   ·subst e'
    rw [if_pos rfl,if_pos (List.getElem?_eq_some_iff.1 hL).1,hL]
   ·rw [if_neg e']
  refine hK _ _ (h g cap sp (by simpa using hsp) (by omega) hmax _ _ (ha.put k3 _) ?_)
  rw [hset]
  exact hw
 ·have hown:w.ownsRow 0 e sz (.slice (some ⟨g,0,none⟩) len cap) len old:=⟨hlen,.inr ⟨g,cap,_,rfl,Nat.zero_le _,hb,hle,hmax,by rw [List.size_toArray,List.length_append]; omega,by show (old++sp).take _=old; rw [List.take_left' hlen]⟩⟩
  have last:∀ (w':World) (g' cap':Nat) (cur:Array Value),cur.size=cap'*sz→len+m≤cap'→cap'≤maxLen→cur.toList.take ((len+m)*sz)=old++news→St w0 w' (L.set i (g',e,cur))→K (a.put o.dst (.slice (some ⟨g',0,none⟩) (len+m) cap')) w':=λw' g' cap' cur h2 h2' h3 h4 h5=>by
   have hc:cur=(old++news++cur.toList.drop ((len+m)*sz)).toArray:=by
    rw [← h4,List.take_append_drop]
   rw [hc] at h5
   refine hK _ _ (h g' cap' _ ?_ h2' h3 _ _ (ha.put k3 _) h5)
   have h6:=Nat.mul_le_mul_right sz h2'
   rw [List.length_drop,Array.length_toList,h2]
   omega
  rcases Nat.lt_or_ge cap (len+m) with hlt | hge
  ·obtain ⟨v',w',hr,hrow,hgr⟩:=run_append_arg_grows (P:=P) w ts o.type e inf z sz by_ ht hinf hz hs1 hb1 hzs h0 ⟨g,0,none⟩ len cap old hlen (hown.cells (g:=g) rfl) ad m c news hm hn hlt h63 hsmall
   refine step v' w' hr ?_
   rcases hrow.2 with ⟨rfl,h0'⟩ | ⟨g',cap',cur,rfl,q1,q2,q3,q4,q5,q6⟩
   ·omega
   ·exact last w' g' cap' cur q5 q3 q4 q6 (hw.setNew (⟨hgr.os,hgr.tape,hgr.output,hgr.size,λk hk=>hgr.block k hk (by simp)⟩) (List.getElem?_eq_some_iff.1 hL).1 q1 q2)
  ·obtain ⟨w',hr,hrow,hgr⟩:=run_append_own_spare (P:=P) w 0 ts o.type e inf sz ht hinf hs1 g len cap old hown ad m c news hm hn h1 hge
   refine step _ w' hr ?_
   rcases hrow.2 with ⟨h0',_⟩ | ⟨g',cap',cur,hv,_,q2,q3,q4,q5,q6⟩
   ·cases h0'
   ·cases hv
    exact last w' g cap cur q5 q3 q4 q6 (hw.set hL hgr q2)
theorem appendGNil (hg:good ops n F o=true) (ts e:TypeId) (inf:TypeInfo) (z:Value) (sz by_:Nat) (ht:P.underlying ts=some (.slice e)) (hinf:P.info? e=some inf) (hz:inf.zero=some z) (hs1:inf.size=sz) (hb1:inf.bytes=by_) (hzs:z.cells.size=sz) (h0:0<sz)
  (s x:Operand) (ho:o.op=.call { callee:=.builtin .append,args:=#[s,x],argTypes:=#[ts,ts] }) (hs:evF F s=.slice none 0 0)
  (A:Option Addr) (m c:Nat) (news:List Value) (hx:evF F x=.slice A m c) (hf:From w0 L A news) (hm:news.length=m*sz) (hm0:0<m) (h1:∀ u∈news,u.oneCell'=true) (hsmall:m*by_≤140737488355328) (h63:m≤maxLen)
  (h:∀ (g' cap':Nat) (sp':List Value),sp'.length+m*sz=cap'*sz→m≤cap'→cap'≤maxLen→wpS P w0 n ops Q (putF F o.dst (.slice (some ⟨g',0,none⟩) m cap')) (L++[(g',e,(news++sp').toArray)]) l):wpS P w0 n ops Q F L (o::l):=λa w ha hw=>by
 obtain ⟨k1,_,k3,_⟩:=good_spec hg
 refine wpList_step λK hK=>?_
 rw [if_pos (ha.wanted k1)]
 rcases hf w hw with rfl | ⟨ad,rfl,hn⟩
 ·have:=Nat.mul_pos hm0 h0
  simp at hm
  omega
 obtain ⟨v',w',hr,hrow,hgr,hnil⟩:=run_append_own (P:=P) w w.heap.size ts o.type e inf z sz by_ ht hinf hz hs1 hb1 hzs h0 (.slice none 0 0) 0 [] (World.ownsRow_nil w _ e sz) ad m c news hm hn h1 (by omega) (by rw [Nat.zero_add]; exact hsmall) (Nat.le_refl _)
 rcases hrow.2 with ⟨_,h0'⟩ | ⟨g',cap',cur,rfl,q1,q2,q3,q4,q5,q6⟩
 ·omega
 have q6':cur.toList.take (m*sz)=news:=by simpa using q6
 unfold Oper.wp
 rw [good_exec hg ha]
 unfold execOp
 simp only [ho,resolve,invoke,builtin,Sem.run_bind,Sem.run_pure,Result.andThen_ok,List.map_toArray,List.map_cons,List.map_nil,hs,hx,hr]
 have hc:cur=(news++cur.toList.drop (m*sz)).toArray:=by rw [← q6',List.take_append_drop]
 rw [hc] at q2
 rw [Nat.zero_add] at q3 ⊢
 refine hK _ _ (h g' cap' _ ?_ q3 q4 _ _ (ha.put k3 _) (hw.add (⟨hgr.os,hgr.tape,hgr.output,hgr.size,λk hk=>hgr.block k hk (by simp [Value.ownBlock])⟩) q1 q2))
 have h6:=Nat.mul_le_mul_right sz q3
 rw [List.length_drop,Array.length_toList,q5]
 omega
theorem permC {c:Code} {M:Blocks} (p:L.Perm M) (h:wpC P w0 n Q F M c):wpC P w0 n Q F L c:=λa w ha hw=>h a w ha (hw.perm p)
theorem permS {M:Blocks} (p:L.Perm M) (h:wpS P w0 n ops Q F M l):wpS P w0 n ops Q F L l:=λa w ha hw=>h a w ha (hw.perm p)
end
end Sy
end
section
namespace Sy
open Go.RowKit
structure Slc where
 v:Value
 bl:Blocks
structure Slc.Is (r:Slc) (e:TypeId) (sz:Nat) (xs:List (List Value)):Prop where
 len:∀ x∈xs,x.length=sz
 one:∀ x∈xs, ∀ u∈x,u.oneCell'=true
 row:(xs=[]∧r=⟨.slice none 0 0,[]⟩)∨∃ g cap sp,r=⟨.slice (some ⟨g,0,none⟩) xs.length cap,[(g,e,(xs.flatten++sp).toArray)]⟩∧sp.length+xs.length*sz=cap*sz∧xs.length≤cap∧cap≤maxLen
theorem Slc.Is.nil (e:TypeId) (sz:Nat):Slc.Is ⟨.slice none 0 0,[]⟩ e sz []:=⟨λ_ h=>(by cases h),λ_ h=>(by cases h),.inl ⟨rfl,rfl⟩⟩
theorem flat_len' {sz:Nat}:∀ {xs:List (List Value)},(∀ x∈xs,x.length=sz)→xs.flatten.length=xs.length*sz
 | [],_=>by simp
 | x::xs,h=>by
  rw [List.flatten_cons,List.length_append,h x (List.mem_cons_self ..),flat_len' λy hy=>h y (List.mem_cons_of_mem _ hy),List.length_cons,Nat.add_mul,Nat.one_mul,Nat.add_comm]
theorem flat_at' {sz:Nat}:∀ {xs:List (List Value)} (sp:List Value),(∀ x∈xs,x.length=sz)→∀ (j:Nat) (x:List Value),xs[j]? = some x→((xs.flatten++sp).drop (j*sz)).take sz=x
 | [],_,_,_,_,h=>by simp at h
 | y::xs,sp,h,0,x,hx=>by
  have hy:=h y (List.mem_cons_self ..)
  simp only [List.getElem?_cons_zero,Option.some.injEq] at hx
  subst hx
  rw [Nat.zero_mul,List.drop_zero,List.flatten_cons,List.append_assoc,List.take_append_of_le_length (by omega),List.take_of_length_le (by omega)]
 | y::xs,sp,h,j+1,x,hx=>by
  have hy:=h y (List.mem_cons_self ..)
  rw [List.getElem?_cons_succ] at hx
  have ih:=flat_at' sp (λz hz=>h z (List.mem_cons_of_mem _ hz)) j x hx
  rw [List.flatten_cons,List.append_assoc,List.drop_append,hy,List.drop_of_length_le (by rw [hy,Nat.add_mul,Nat.one_mul]; omega),List.nil_append,Nat.add_mul,Nat.one_mul,Nat.add_sub_cancel]
  exact ih
theorem Slc.Is.out {r:Slc} {e:TypeId} {sz:Nat} {xs:List (List Value)} (h:r.Is e sz xs):∃ A c,r.v=.slice A xs.length c∧xs.length≤c∧c≤maxLen∧∀ {w0:Base} {w:World} {L:Blocks},St w0 w L→(∀ b∈r.bl,b∈L)→Lst w sz A xs.length (λi=>xs.getD i []):=by
 rcases h.row with ⟨rfl,rfl⟩ | ⟨g,cap,sp,rfl,h1,h2,h3⟩
 ·exact ⟨none,0,rfl,Nat.le_refl _,Nat.zero_le _,λ_ _=>⟨0,0,λhn=>absurd hn (Nat.lt_irrefl _)⟩⟩
 ·refine ⟨some ⟨g,0,none⟩,cap,rfl,h2,h3,λ{w0 w L} hw hb=>⟨g,0,λhn=>?_⟩⟩
  have hbk:=(hw.blk g e _ (hb _ (List.mem_singleton.2 rfl))).2
  refine ⟨rfl,hbk.lt,λj hj i v hi=>?_⟩
  have hx:xs[j]? = some (xs.getD j []):=by rw [List.getD_eq_getElem?_getD,List.getElem?_eq_getElem hj]; rfl
  have hl:=h.len _ (List.mem_of_getElem? hx)
  have hi':i<sz:=by rw [← hl]; exact (List.getElem?_eq_some_iff.1 hi).1
  refine (hbk.cell _).trans ?_
  have q:=flat_at' sp h.len j _ hx
  have hi:(xs.getD j [])[i]? = some v:=hi
  rw [← q,List.getElem?_take_of_lt hi',List.getElem?_drop] at hi
  rw [Nat.zero_add,List.getElem?_toArray]
  exact hi
section
variable {P:Program} {w0:Base} {n:Nat} {Q:Exit→Act→World→Prop} {F:Slots} {pre T:Blocks} {ops:Array Oper} {o:Oper} {l:List Oper}
theorem Quiet.lenR {L:Blocks} {r:Slc} {e t:TypeId} {sz m:Nat} {xs:List (List Value)} (hr:r.Is e sz xs) (hm:xs.length=m) (x:Operand) {e':TypeId} (ht:P.underlying t=some (.slice e')) (ho:o.op=.call { callee:=.builtin .len,args:=#[x],argTypes:=#[t] }) (hx:evF F x=r.v):Quiet P w0 F L o (.int .i64 (m:Int)):=Quiet.pure λw=>by
 subst hm
 rcases hr.row with ⟨rfl,rfl⟩ | ⟨g,cap,sp,rfl,_⟩ <;>
 ·unfold execOp
  simp only [ho,resolve,invoke,builtin,Sem.run_bind,Sem.run_pure,Result.andThen_ok,List.map_toArray,List.map_cons,List.map_nil,hx]
  simp [Builtin.len_,run_underlying ht,goInt,Result.andThen]
theorem appendR (hg:good ops n F o=true) (ts e:TypeId) (inf:TypeInfo) (z:Value) (sz by_:Nat) (ht:P.underlying ts=some (.slice e)) (hinf:P.info? e=some inf) (hz:inf.zero=some z) (hs1:inf.size=sz) (hb1:inf.bytes=by_) (hzs:z.cells.size=sz) (h0:0<sz)
  (s x:Operand) (ho:o.op=.call { callee:=.builtin .append,args:=#[s,x],argTypes:=#[ts,ts] })
  {r:Slc} {xs:List (List Value)} (hr:r.Is e sz xs) (hs:evF F s=r.v) (y:List Value) (hy:y.length=sz) (hy1:∀ u∈y,u.oneCell'=true)
  (j gx:Nat) (tx:TypeId) (hx:evF F x=.slice (some ⟨gx,0,none⟩) 1 1) (hLx:(pre++(r.bl++T))[j]? = some (gx,tx,y.toArray)) (hsmall:(xs.length+1)*by_≤140737488355328) (h63:xs.length+1≤maxLen)
  (h:∀ r':Slc,r'.Is e sz (xs++[y])→wpS P w0 n ops Q (putF F o.dst r'.v) (pre++(r'.bl++T)) l):wpS P w0 n ops Q F (pre++(r.bl++T)) (o::l):=by
 have hfrom:From w0 (pre++(r.bl++T)) (some ⟨gx,0,none⟩) y:=From.blk hLx (by simp)
 have hlen:∀ u∈xs++[y],u.length=sz:=λu hu=>by
  rcases List.mem_append.1 hu with hu | hu
  ·exact hr.len u hu
  ·rw [List.mem_singleton.1 hu]; exact hy
 have hone:∀ u∈xs++[y], ∀ v∈u,v.oneCell'=true:=λu hu=>by
  rcases List.mem_append.1 hu with hu | hu
  ·exact hr.one u hu
  ·rw [List.mem_singleton.1 hu]; exact hy1
 rcases hr.row with ⟨rfl,rfl⟩ | ⟨g,cap,sp,rfl,q1,q2,q3⟩
 ·refine appendGNil hg ts e inf z sz by_ ht hinf hz hs1 hb1 hzs h0 s x ho hs (some ⟨gx,0,none⟩) 1 1 y hx hfrom (by omega) (by decide) hy1 (by simpa using hsmall) (by simpa using h63) (λg' cap' sp' h1 h2 h3=>?_)
  have hq:=h ⟨.slice (some ⟨g',0,none⟩) 1 cap',[(g',e,(y++sp').toArray)]⟩ ⟨hlen,hone,.inr ⟨g',cap',sp',by simp,by simpa using h1,by simpa using h2,h3⟩⟩
  exact permS (by
   rw [List.nil_append,List.append_assoc]
   exact (List.perm_append_comm (l₁:=T) (l₂:=[(g',e,(y++sp').toArray)])).append_left pre) hq
 ·have hi:(pre++([(g,e,(xs.flatten++sp).toArray)]++T))[pre.length]? = some (g,e,(xs.flatten++sp).toArray):=by
   rw [List.getElem?_append_right (Nat.le_refl _),Nat.sub_self]
   rfl
  refine appendG hg ts e inf z sz by_ ht hinf hz hs1 hb1 hzs h0 s x ho pre.length g xs.length cap xs.flatten sp hs hi (flat_len' hr.len) q1 q3 (some ⟨gx,0,none⟩) 1 1 y hx hfrom (by omega) (Nat.le_refl _) hy1 hsmall h63 (λg' cap' sp' h1 h2 h3=>?_)
  have hq:=h ⟨.slice (some ⟨g',0,none⟩) (xs.length+1) cap',[(g',e,(xs.flatten++y++sp').toArray)]⟩ ⟨hlen,hone,.inr ⟨g',cap',sp',by simp,by simpa using h1,by simpa using h2,h3⟩⟩
  have he:(pre++([(g,e,(xs.flatten++sp).toArray)]++T)).set pre.length (g',e,(xs.flatten++y++sp').toArray)=pre++([(g',e,(xs.flatten++y++sp').toArray)]++T):=by
   rw [List.set_append_right _ _ (Nat.le_refl _),Nat.sub_self]
   rfl
  rw [he]
  exact hq
theorem movT {b:Nat×TypeId×Array Value} (h:wpS P w0 n ops Q F ((pre++[b])++T) l):wpS P w0 n ops Q F ((pre++T)++[b]) l :=
 permS (by
  rw [List.append_assoc,List.append_assoc]
  exact (List.perm_append_comm (l₁:=T) (l₂:=[b])).append_left pre) h
theorem setT {i:Nat} {b:Nat×TypeId×Array Value} (h:wpS P w0 n ops Q F ((pre.set i b)++T) l) (hi:Nat.ble (i+1) pre.length=true:=by kernel_rfl):wpS P w0 n ops Q F ((pre++T).set i b) l:=by
 rw [List.set_append_left _ _ (Nat.le_of_ble_eq_true hi)]
 exact h
theorem St.pick {w:World} {M:Blocks} (is:List Nat) (hn:is.Nodup) (hm:is.map (λi=>pre[i]?)=M.map some) (hw:St w0 w (pre++T)):St w0 w (M++T):=by
 have hsub:∀ b∈M,b∈pre:=λb hb=>by
  have:some b∈M.map some:=List.mem_map.2 ⟨b,hb,rfl⟩
  rw [← hm] at this
  obtain ⟨i,_,hi⟩:=List.mem_map.1 this
  exact List.mem_of_getElem? hi
 have hap:=hw.apart
 rw [List.map_append,List.nodup_append] at hap
 obtain ⟨hp,hT,hd⟩:=hap
 refine ⟨hw.below,λg t cs hb=>hw.blk g t cs (by
  rcases List.mem_append.1 hb with hb | hb
  ·exact List.mem_append.2 (.inl (hsub _ hb))
  ·exact List.mem_append.2 (.inr hb)),?_,hw.size,hw.non⟩
 rw [List.map_append,List.nodup_append]
 refine ⟨?_,hT,λa ha b hb=>hd a (by
  obtain ⟨x,hx,rfl⟩:=List.mem_map.1 ha
  exact List.mem_map.2 ⟨x,hsub x hx,rfl⟩) b hb⟩
 have hlen:is.length=M.length:=by simpa using congrArg List.length hm
 rw [List.Nodup,List.pairwise_map,List.pairwise_iff_getElem]
 intro a b ha hb hab e
 have q:∀ (c:Nat) (hc:c<M.length),pre[is[c]'(by omega)]? = some M[c]:=λc hc=>by
  have:=congrArg (λl=>l[c]?) hm
  simp only [List.getElem?_map] at this
  rw [List.getElem?_eq_getElem (by omega),List.getElem?_eq_getElem hc] at this
  simpa using this
 have q1:=List.getElem?_eq_some_iff.1 (q a ha)
 have q2:=List.getElem?_eq_some_iff.1 (q b hb)
 obtain ⟨l1,e1⟩:=q1
 obtain ⟨l2,e2⟩:=q2
 have hne:is[a]'(by omega)≠is[b]'(by omega):=λe3=>by
  have:=List.pairwise_iff_getElem.1 hn a b (by omega) (by omega) hab
  exact this e3
 have hpw:=List.pairwise_iff_getElem.1 hp
 rcases Nat.lt_or_gt_of_ne hne with hlt | hlt
 ·have:=hpw _ _ (by simpa using l1) (by simpa using l2) hlt
  simp only [List.getElem_map,e1,e2] at this
  exact this e
 ·have:=hpw _ _ (by simpa using l2) (by simpa using l1) hlt
  simp only [List.getElem_map,e1,e2] at this
  exact this e.symm
theorem loopT {L:Blocks} {Y:Type} {c:Code} (N:Nat) (FF:Nat→Y→Slots) (LL:Nat→Y→Blocks) (H:Nat→Y→Prop) (x0:Y) (h0:H 0 x0) (hF:∀ p∈FF 0 x0,F.lookup p.1=some p.2) (hL:∀ w,St w0 w L→St w0 w (LL 0 x0))
  (hr:∀ k x,k≤N→H k x→wpC P w0 n (Exit.then (NextX w0 n N FF LL H k) Q) (FF k x) (LL k x) c):wpC P w0 n Q F L (.loop c) :=
 loopI N (λk a w=>∃ x,H k x∧Fr w0.ds a n (FF k x)∧St w0 w (LL k x)) (λ_ w ha hw=>⟨x0,h0,ha.all hF,hL w hw⟩)
  λk hk a w ⟨x,hx,ha,hw⟩=>hr k x hk hx a w ha hw
theorem againT {L:Blocks} {Y:Type} {N:Nat} {FF:Nat→Y→Slots} {LL:Nat→Y→Blocks} {H:Nat→Y→Prop} {k:Nat} {R:Exit→Act→World→Prop} (y:Y) (hk:k<N) (hy:H (k+1) y) (hF:∀ p∈FF (k+1) y,F.lookup p.1=some p.2) (hL:∀ w,St w0 w L→St w0 w (LL (k+1) y)) :
  X w0 n (Exit.then (NextX w0 n N FF LL H k) R) F L .normal:=λ_ w ha hw=>⟨hk,y,hy,ha.all hF,hL w hw⟩
theorem Slc.Is.cells {r:Slc} {e:TypeId} {sz:Nat} {xs:List (List Value)} (h:r.Is e sz xs):r.v.cells=#[r.v]∧r.v.oneCell'=true:=by
 rcases h.row with ⟨rfl,rfl⟩ | ⟨g,cap,sp,rfl,_⟩ <;> exact ⟨rfl,rfl⟩
end
theorem fold_all:∀ (c:List Value) (off k:Nat) (cs:Array Value),(c.zipIdx k).foldl (λcs x=>cs.setIfInBounds (off+x.2) x.1) cs=setAll cs (off+k) c
 | [],_,_,_=>rfl
 | v::c,off,k,cs=>by
  rw [List.zipIdx_cons,List.foldl_cons,fold_all c off (k+1)]
  rfl
section
variable {P:Program} {w0:Base} {F:Slots} {L:Blocks} {o:Oper}
theorem exec_upto (t:TypeId) (x hx':Operand) (g f len cap hi s:Nat) (kh:IntKind) (ho:o.op=.slice t x none (some hx') none) (hx:evF F x=.slice (some ⟨g,f,none⟩) len cap) (hh:evF F hx'=.int kh (hi:Int)) (ht:P.underlying t=some (.slice (P.elem t))) (hsz:∀ w,(sizeOf (P.elem t)).run P w=.ok s w) (h1:hi≤cap) (w:World) :
  (execOp (evF F) o).run P w=.ok (.value (.slice (some ⟨g,f,none⟩) hi cap)) w:=by
 have e:(Instr.sliceAt t (.slice (some ⟨g,f,none⟩) len cap) none (some (.int kh (hi:Int))) none).run P w=.ok (.slice (some ⟨g,f,none⟩) hi cap) w:=by
  rw [run_sliceAt_slice w t _ _ _ _ ht]
  simp [Instr.slice,run_underlying ht,Instr.sliceBounds,Instr.sliceBound,asIntOf,h1,hsz,Result.andThen,Addr.add]
 unfold execOp
 simp only [ho,hx,hh,Option.map_some,Option.map_none,e,Sem.run_bind,Sem.run_pure,Result.andThen_ok]
end
theorem Slc.Is.mk' {g nn cap:Nat} {e:TypeId} {sz:Nat} {xs:List (List Value)} {cs:List Value} (hl:∀ x∈xs,x.length=sz) (h1:∀ x∈xs, ∀ u∈x,u.oneCell'=true) (hn:xs.length=nn) (hc:cs.take (nn*sz)=xs.flatten) (hs:cs.length=cap*sz) (hle:nn≤cap) (hm:cap≤maxLen):Slc.Is ⟨.slice (some ⟨g,0,none⟩) nn cap,[(g,e,cs.toArray)]⟩ e sz xs:=by
 subst hn
 refine ⟨hl,h1,.inr ⟨g,cap,cs.drop (xs.length*sz),?_,?_,hle,hm⟩⟩
 ·rw [← hc,List.take_append_drop]
 ·have:=Nat.mul_le_mul_right sz hle
  rw [List.length_drop]
  omega
end Sy
end
section
namespace Sy
open Go.RowKit
section
variable {P:Program} {w0:Base} {n:Nat} {Q:Exit→Act→World→Prop} {F:Slots} {L M:Blocks} {ops:Array Oper} {ex:Nat→Bool} {fuel:Nat} {listed:Array Bool} {pre T:Blocks}
theorem permD (p:L.Perm M) (h:wpD P w0 n ops Q ex F M fuel listed):wpD P w0 n ops Q ex F L fuel listed:=λa w ha hw=>h a w ha (hw.perm p)
theorem mov_perm {b:Nat×TypeId×Array Value}:((pre++T)++[b]).Perm ((pre++[b])++T):=by
 rw [List.append_assoc,List.append_assoc]
 exact (List.perm_append_comm (l₁:=T) (l₂:=[b])).append_left pre
theorem movTD {b:Nat×TypeId×Array Value} (h:wpD P w0 n ops Q ex F ((pre++[b])++T) fuel listed):wpD P w0 n ops Q ex F ((pre++T)++[b]) fuel listed:=permD mov_perm h
theorem setTD {i:Nat} {b:Nat×TypeId×Array Value} (h:wpD P w0 n ops Q ex F ((pre.set i b)++T) fuel listed) (hi:Nat.ble (i+1) pre.length=true:=by kernel_rfl):wpD P w0 n ops Q ex F ((pre++T).set i b) fuel listed:=by
 rw [List.set_append_left _ _ (Nat.le_of_ble_eq_true hi)]
 exact h
def onlyQ (Q:Exit→Act→World→Prop) (K:Act→World→Prop):Exit→Act→World→Prop
 | .normal=>K
 | .panic c=>Q (.panic c)
 | _=>λ_ _=>False
theorem wp_only {o:Oper} {a:Act} {w:World} {K' K:Act→World→Prop} (h:o.wp P a w K (onlyQ Q K')):o.wp P a w K Q:=by
 unfold Oper.wp at *
 generalize (execOp a.eval o).run P w=r at *
 cases r with
 | ok x w' =>
  cases x <;> simp only [Oper.upon] at h ⊢ <;>
   first
    | exact h
    | exact Calls.mono h (λe w'' he=>by cases e <;> first | exact he | (obtain ⟨_,_,q⟩:=he; exact q.elim))
 | halt x w'=>cases x <;> simp only [Oper.upon] at h ⊢ <;> exact h
theorem soleD (k:Nat) {oi:Oper} (hi0:ops.toList[k]? = some oi) (h:∀ Q',(∀ F' L',wpD P w0 n ops Q ex F' L' fuel (listed.setIfInBounds k true)→wpS P w0 n ops Q' F' L' [])→wpS P w0 n ops Q' F L [oi])
  (hg:wantedF ops F oi=some true:=by kernel_rfl) (hr:Region.ready .any ops listed=[k]:=by kernel_rfl) (hex:ex k=true:=by rfl):wpD P w0 n ops Q ex F L (fuel+1) listed:=λa w ha hw =>
 wpAnyG_sole k hi0 hr (ha.wanted hg) λw1 h1 K hK=>by
  have q:=h (onlyQ Q K) (λF' L' hd a' w' ha' hw'=>wpList_nil (hK _ _ (λe=>by rw [hex] at e; cases e) (hd a' w' ha' hw'))) a w1 ha (hw.gr h1)
  unfold wpList at q
  rw [if_pos (ha.wanted hg)] at q
  rcases q with q | ⟨_,a',w',q⟩
  ·exact wp_only (K':=K) q
  ·exact q.elim
end
def rowsB (r:Nat→Slc) (n:Nat):Blocks:=(List.range n).flatMap λi=>(r i).bl
def rowsX (r:Nat→Slc) (n i:Nat):Blocks:=((List.range n).filter λj=>j != i).flatMap λj=>(r j).bl
def putR (r:Nat→Slc) (i:Nat) (x:Slc):Nat→Slc:=λj=>if j=i then x else r j
def nilS:Slc:=⟨.slice none 0 0,[]⟩
section
variable {r:Nat→Slc} {n i:Nat} {x:Slc}
theorem putR_self:putR r i x i=x:=if_pos rfl
theorem putR_ne {j:Nat} (h:j≠i):putR r i x j=r j:=if_neg h
theorem rows_perm (r:Nat→Slc) (hi:i<n):(rowsB r n).Perm ((r i).bl++rowsX r n i):=by
 have h1:(List.range n).Perm (i::(List.range n).erase i):=List.perm_cons_erase (List.mem_range.2 hi)
 rw [List.nodup_range.erase_eq_filter] at h1
 exact h1.flatMap_right _
theorem rowsX_put (r:Nat→Slc) (n i:Nat) (x:Slc):rowsX (putR r i x) n i=rowsX r n i:=by
 unfold rowsX
 rw [List.flatMap_def,List.flatMap_def]
 refine congrArg _ (List.map_congr_left λj hj=>?_)
 have:j≠i:=by simpa using (List.mem_filter.1 hj).2
 rw [putR_ne this]
theorem rows_back (hi:i<n):(x.bl++rowsX r n i).Perm (rowsB (putR r i x) n):=by
 have h:=(rows_perm (putR r i x) hi).symm
 rwa [putR_self,rowsX_put] at h
theorem rows_mem (hi:i<n) {b:Nat×TypeId×Array Value} (hb:b∈(r i).bl):b∈rowsB r n:=List.mem_flatMap.2 ⟨i,List.mem_range.2 hi,hb⟩
theorem out_perm {pre T:Blocks} (r:Nat→Slc) (hi:i<n):(pre++(rowsB r n++T)).Perm (pre++((r i).bl++(rowsX r n i++T))):=by
 rw [← List.append_assoc (r i).bl]
 exact ((rows_perm r hi).append_right T).append_left pre
theorem in_perm {pre T:Blocks} (hi:i<n):(pre++(x.bl++(rowsX r n i++T))).Perm (pre++(rowsB (putR r i x) n++T)):=by
 rw [← List.append_assoc x.bl]
 exact ((rows_back hi).append_right T).append_left pre
def rowsC (r:Nat→Slc) (n:Nat):Array Value:=(flat (λj=>[(r j).v]) n).toArray
theorem rowsC_get (hi:i<n) {o:Nat} (ho:o=0+i*1):(rowsC r n)[o]? = some (r i).v:=by
 rw [ho,Nat.zero_add,Nat.mul_one]
 exact flat_get1 (f:=λj=>(r j).v) hi
theorem rowsC_size:(rowsC r n).size=n:=flat_size1 (f:=λj=>(r j).v)
theorem rowsC_lt (hi:i<n) {o:Nat} (ho:o=0+i*1):o<(rowsC r n).size:=by rw [rowsC_size]; omega
theorem rowsC_set (hi:i<n) {o:Nat} (ho:o=0+i*1) {u:Value} (hu:x.v=u):(rowsC r n).setIfInBounds o u=rowsC (putR r i x) n:=by
 rw [ho,Nat.zero_add,Nat.mul_one, ← hu]
 unfold rowsC
 rw [flat_set1 (f:=λj=>(r j).v) hi]
 refine congrArg List.toArray (flat_congr λj _=>?_)
 unfold putR
 split <;> rfl
def RowsAre (r:Nat→Slc) (e:TypeId) (sz:Nat) (f:Nat→Nat→List Value) (c:Nat→Nat):Prop:=∀ i,(r i).Is e sz ((List.range (c i)).map (f i))
theorem RowsAre.nil (e:TypeId) (sz:Nat) (f:Nat→Nat→List Value):RowsAre (λ_=>nilS) e sz f (λ_=>0):=λ_=>Slc.Is.nil e sz
theorem RowsAre.put {e:TypeId} {sz:Nat} {f:Nat→Nat→List Value} {c c':Nat→Nat} (h:RowsAre r e sz f c) (hx:x.Is e sz ((List.range (c i)).map (f i)++[f i (c i)])) (hc:c' i=c i+1) (hc':∀ j,j≠i→c' j=c j):RowsAre (putR r i x) e sz f c':=λj=>by
 by_cases hj:j=i
 ·subst hj
  rw [putR_self,hc,List.range_succ,List.map_append]
  exact hx
 ·rw [putR_ne hj,hc' j hj]
  exact h j
theorem RowsAre.cnt {e:TypeId} {sz:Nat} {f:Nat→Nat→List Value} {c c':Nat→Nat} (h:RowsAre r e sz f c) (hc:∀ j,c' j=c j):RowsAre r e sz f c':=λj=>by rw [hc]; exact h j
def cntR (n:Nat→Nat) (k j:Nat) (i:Nat):Nat:=if i<k then n i else if i=k then j else 0
theorem cntR_zero (n:Nat→Nat) (i:Nat):cntR n 0 0 i=0:=by unfold cntR; simp
theorem cntR_at (n:Nat→Nat) (k j:Nat):cntR n k j k=j:=by unfold cntR; simp
theorem cntR_ne {n:Nat→Nat} {k j i:Nat} (h:i≠k):cntR n k (j+1) i=cntR n k j i:=by unfold cntR; simp [h]
theorem cntR_next (n:Nat→Nat) (k i:Nat):cntR n (k+1) 0 i=cntR n k (n k) i:=by
 unfold cntR
 by_cases h1:i<k
 ·simp [h1,Nat.lt_succ_of_lt h1]
 ·by_cases h2:i=k
  ·subst h2; simp
  ·have:¬ i<k+1:=by omega
   simp [h1,h2,this]
theorem cntR_all {n:Nat→Nat} {k i:Nat} (h:i<k):cntR n k 0 i=n i:=by unfold cntR; simp [h]
theorem RowsAre.put' {e:TypeId} {sz:Nat} {f:Nat→Nat→List Value} {c:Nat→Nat} {k j:Nat} {y:List Value} (h:RowsAre r e sz f (cntR c k j)) (hx:x.Is e sz ((List.range (cntR c k j k)).map (f k)++[y])) (hy:y=f k j):RowsAre (putR r k x) e sz f (cntR c k (j+1)) :=
 h.put (by rw [hy] at hx; rwa [show f k (cntR c k j k)=f k j by rw [cntR_at]]) (by rw [cntR_at,cntR_at]) (λi hi=>cntR_ne hi)
theorem rowsB_nil:rowsB (λ_=>nilS) n=[]:=by simp [rowsB,nilS]
def GivesRows (eo e:TypeId) (sz:Nat) (f:Nat→Nat→List Value) (c:Nat→Nat) (N:Nat) (v:Value) (M:Blocks):Prop:=∃ g r,v=.slice (some ⟨g,0,none⟩) N N∧M=(g,eo,rowsC r N)::rowsB r N∧RowsAre r e sz f c
theorem RowsAre.lst {e:TypeId} {sz m N:Nat} {f:Nat→Nat→List Value} {c:Nat→Nat} (h:RowsAre r e sz f c) {i:Nat} (hm:c i=m) (hi:i<N):∃ A k,(r i).v=.slice A m k∧m≤k∧k≤maxLen∧∀ {w0:Base} {w:World} {L:Blocks},St w0 w L→(∀ b∈rowsB r N,b∈L)→Lst w sz A m (f i):=by
 subst hm
 obtain ⟨A,k,h1,h2,h3,h4⟩:=(h i).out
 rw [List.length_map,List.length_range] at h1 h2 h4
 refine ⟨A,k,h1,h2,h3,λ{w0 w L} hw hb=>?_⟩
 obtain ⟨g,o,q⟩:=h4 hw (λb hm=>hb b (rows_mem hi hm))
 refine ⟨g,o,λhn=>?_⟩
 obtain ⟨q1,q2,q3⟩:=q hn
 refine ⟨q1,q2,λj hj=>?_⟩
 have q4:w.rangeAt g (o+j*sz) ((List.map (f i) (List.range (c i))).getD j []):=q3 j hj
 rw [List.getD_eq_getElem?_getD,List.getElem?_map,List.getElem?_range hj] at q4
 exact q4
end
section
variable {w0:Base} {w:World} {pre a T M N:Blocks}
theorem St.pick2 (is:List Nat) (hn:is.Nodup) (hm:is.map (λi=>pre[i]?)=(M++N).map some) (hw:St w0 w (pre++(a++T))):St w0 w (M++(a++(T++N))):=by
 refine (St.pick is hn hm hw).perm ?_
 rw [List.append_assoc, ← List.append_assoc a]
 exact (List.perm_append_comm (l₁:=N) (l₂:=a++T)).append_left M
end
theorem fill_twoV {place:Nat→Option (Nat×Nat)} {cs:Array Value} {v:Value} {c:List Value} {n:Nat} (hv:v.cells=#[v]) (hp0:place 0=some (0,1)) (hp1:place 1=some (1,n)) (hc:c.length=n) (hs:cs.size=n+1):Instr.fill place cs [(0,v),(1,.agg c.toArray)]=some (v::c).toArray:=by
 unfold Instr.fill
 rw [hp0]
 simp only [hv,List.size_toArray,List.length_singleton,hs,Nat.zero_add,ne_eq,not_true_eq_false,decide_false,Bool.false_or]
 rw [if_neg (by simp)]
 unfold Instr.fill
 rw [hp1]
 have hz:(#[v].zipIdx).foldl (λcs (x:Value×Nat)=>cs.setIfInBounds x.2 x.1) cs=cs.setIfInBounds 0 v:=rfl
 simp only [Value.cells,List.size_toArray,hc,ne_eq,not_true_eq_false,decide_false,Bool.false_or]
 have hcs:(cs.setIfInBounds 0 v).size=n+1:=by rw [Array.size_setIfInBounds,hs]
 rw [hz,if_neg (by rw [hcs]; simp; omega)]
 unfold Instr.fill
 have h1:c.toArray.zipIdx.foldl (λcs (x:Value×Nat)=>cs.setIfInBounds (1+x.2) x.1) (cs.setIfInBounds 0 v)=setAll (cs.setIfInBounds 0 v) (1+0) c:=by
  rw [← fold_all c 1 0, ← Array.foldl_toList,Array.toList_zipIdx]
 have h2:=Cu.setAll_all c 1 (cs.setIfInBounds 0 v) (by rw [hcs]; omega)
 rw [h1,Nat.add_zero,h2,Array.toList_setIfInBounds]
 obtain ⟨a,r,e⟩:∃ a r,cs.toList=a::r:=by
  cases h:cs.toList with
  | nil=>rw [← Array.length_toList,h] at hs; simp at hs
  | cons a r=>exact ⟨a,r,rfl⟩
 rw [e]
 rfl
section
variable {P:Program} {w0:Base} {F:Slots} {L:Blocks} {o:Oper}
theorem Quiet.build2V (t:TypeId) (fs:Array Field) (it:TypeInfo) (zv:Value) (x y:Operand) (v:Value) (c:List Value) (n:Nat) (ho:o.op=.build t #[(0,x),(1,y)]) (hx:evF F x=v) (hv:v.cells=#[v]) (hy:evF F y=.agg c.toArray) (hu:P.underlying t=some (.struct fs)) (hit:P.info? t=some it) (hz:it.zero=some zv) (hzs:zv.cells.size=n+1)
  (hpl:fs.toList.mapM (λf=>(P.info? f.type).map λi=>(f.offset,i.size))=some [(0,1),(1,n)]) (hc:c.length=n):Quiet P w0 F L o (.agg (v::c).toArray):=Quiet.pure λw=>by
 have hb:P.built t #[(0,v),(1,.agg c.toArray)].toList=some (v::c).toArray:=by
  unfold Program.built
  rw [hit,hu]
  simp only [hz,hpl]
  exact fill_twoV hv rfl rfl hc hzs
 have hr:=run_build (P:=P) w t #[(0,v),(1,.agg c.toArray)] _ hb
 unfold execOp
 simp only [ho,Sem.run_bind,List.map_toArray,List.map_cons,List.map_nil,hx,hy,hr,Result.andThen_ok,Sem.run_pure]
end
end Sy
end
section
namespace Cu
open Go.RowKit Sy
structure TxsIs (w0:Base) (e:TypeId) (y:Slc) (T:Blocks) (ts:List Sh.Tx):Prop where
 row:y.Is e 1 (ts.map λt=>[t.val])
 ok:∀ (w:World) (L:Blocks),St w0 w L→(∀ b∈T,b∈L)→∀ t∈ts,t.ok w
section
variable {w0:Base} {e:TypeId} {y:Slc} {T:Blocks} {ts:List Sh.Tx}
theorem TxsIs.nil (w0:Base) (e:TypeId):TxsIs w0 e nilS [] []:=⟨Slc.Is.nil _ _,λ_ _ _ _ _ h=>(by cases h)⟩
theorem TxsIs.start {g:Nat} {A:Option Addr} {m:List UInt8} {n c:Nat} (hn:m.length=n) (hok:∀ w L,St w0 w L→(Sh.Tx.mk A m c).ok w):TxsIs w0 e ⟨.slice (some ⟨g,0,none⟩) 1 1,[(g,e,#[.slice A n c])]⟩ [] [⟨A,m,c⟩]:=by
 subst hn
 refine ⟨Slc.Is.mk' (cs:=[.slice A m.length c]) (λx hx=>?_) (λx hx u hu=>?_) rfl rfl rfl (Nat.le_refl _) (by decide),λw L hw _ t ht=>?_⟩
 ·rw [List.mem_singleton.1 hx]; rfl
 ·rw [List.mem_singleton.1 hx] at hu
  rw [List.mem_singleton.1 hu]; rfl
 ·rw [List.mem_singleton.1 ht]; exact hok w L hw
theorem TxsIs.texts (h:TxsIs w0 e y T ts):∃ A c,y.v=.slice A ts.length c∧ts.length≤c∧c≤maxLen∧∀ {w:World} {L:Blocks},St w0 w L→(∀ b∈y.bl,b∈L)→(∀ b∈T,b∈L)→Sh.Texts w A ts:=by
 obtain ⟨A,c,h1,h2,h3,h4⟩:=h.row.out
 rw [List.length_map] at h1 h2 h4
 refine ⟨A,c,h1,h2,h3,λ{w L} hw hy hT hne=>?_⟩
 obtain ⟨g,o,q⟩:=h4 hw hy
 obtain ⟨q1,q2,q3⟩:=q (List.length_pos_iff.2 hne)
 refine ⟨g,o,q1,q2,λj x hx=>⟨?_,h.ok w L hw hT x (List.mem_of_getElem? hx)⟩⟩
 have hj:=(List.getElem?_eq_some_iff.1 hx).1
 have q4:w.rangeAt g (o+j*1) ((ts.map λt=>[t.val]).getD j []):=q3 j hj
 rw [List.getD_eq_getElem?_getD,List.getElem?_map,hx] at q4
 have q5:=range_one q4 0 rfl
 rwa [Nat.mul_one,Nat.add_zero] at q5
theorem TxsIs.add (h:TxsIs w0 e y T ts) {y':Slc} {v:Value} (t:Sh.Tx) (T':Blocks) (hy:y'.Is e 1 (ts.map (λt=>[t.val])++[[v]])) (hv:t.val=v) (hok:∀ w L,St w0 w L→(∀ b∈T',b∈L)→t.ok w):TxsIs w0 e y' (T++T') (ts++[t]) :=
 ⟨by rw [List.map_append]; subst hv; exact hy,λw L hw hT x hx=>(List.mem_append.1 hx).elim (λh1=>h.ok w L hw (λb hb=>hT b (List.mem_append.2 (.inl hb))) x h1) (λh1=>by rw [List.mem_singleton.1 h1]; exact hok w L hw (λb hb=>hT b (List.mem_append.2 (.inr hb))))⟩
theorem cat_add (ts:List Sh.Tx) (t:Sh.Tx):Sh.cat (ts++[t])=Sh.cat ts++t.l:=by unfold Sh.cat; rw [List.flatMap_append]; simp
theorem ok_blk {g:Nat} {t:TypeId} {l:List UInt8} {c:Nat} (hl:l.length≤c) (hc:c≤9223372036854775807):∀ w L,St w0 w L→(∀ b∈[(g,t,(l.map bv).toArray)],b∈L)→(Sh.Tx.mk (some ⟨g,0,none⟩) l c).ok w:=λw L hw hT=>⟨Sh.Src.of_blk (hw.blk g t _ (hT _ (List.mem_singleton.2 rfl))).2,hl,hc⟩
theorem val_blk {g c n:Nat} {l:List UInt8} (hl:l.length=n):(Sh.Tx.mk (some ⟨g,0,none⟩) l c).val=.slice (some ⟨g,0,none⟩) n c:=by
 unfold Sh.Tx.val
 rw [hl]
end
end Cu
end
section
namespace Cu
open Go.RowKit Sy
noncomputable def infBnd:TypeInfo:=(Tryz.prog.info? 86).getD default
theorem info_bnd:Tryz.prog.info? 86=some infBnd:=by kernel_rfl
noncomputable def infSl:TypeInfo:=(Tryz.prog.info? 24).getD default
theorem info_sl:Tryz.prog.info? 24=some infSl:=by kernel_rfl
theorem one_sl (A:Option Addr) (n c:Nat):∀ u∈[Value.slice A n c],u.oneCell'=true:=λu hu=>by rw [List.mem_singleton.1 hu]; rfl
theorem bndc_len (R:Option Addr) (n c:Nat) {l:List UInt8} (h:l.length=32):(bndc R n c l).length=33:=by simp [bndc,h]
theorem bndc_one (R:Option Addr) (n c:Nat) (l:List UInt8):∀ u∈bndc R n c l,u.oneCell'=true:=λu hu=>by
 rcases List.mem_cons.1 hu with rfl | hu
 ·rfl
 ·obtain ⟨x,_,rfl⟩:=List.mem_map.1 hu; rfl
def keysT (X Y:Nat→Nat) (I:Nat→Bool):Nat→List UInt8
 | 0=>[]
 | k+1=>keysT X Y I k++encS (dec (X k) (Y k) (I k))
def ringsT (n:Nat→Nat) (X Y:Nat→Nat→Nat) (I:Nat→Nat→Bool):Nat→List UInt8
 | 0=>[]
 | k+1=>ringsT n X Y I k++(UInt8.ofNat (n k)::keysT (X k) (Y k) (I k) (n k))
theorem keysT_len (X Y:Nat→Nat) (I:Nat→Bool):∀ k,(keysT X Y I k).length=33*k
 | 0=>rfl
 | k+1=>by
  show (keysT X Y I k++_).length=_
  rw [List.length_append,keysT_len X Y I k,encS_length]
  omega
theorem ringsT_len {n:Nat→Nat} {N:Nat} (h:∀ i,i<N→n i≤64) (X Y:Nat→Nat→Nat) (I:Nat→Nat→Bool):∀ k,k≤N→(ringsT n X Y I k).length≤2113*k
 | 0,_=>Nat.le_refl _
 | k+1,hk=>by
  show (ringsT n X Y I k++(_::_)).length≤_
  have:=ringsT_len h X Y I k (by omega)
  have:=h k (by omega)
  rw [List.length_append,List.length_cons,keysT_len]
  omega
def rgM (m:List UInt8) (N:Nat) (n:Nat→Nat) (X Y:Nat→Nat→Nat) (I:Nat→Nat→Bool):List UInt8:=Sh.taggedS rgRing.data.toList (m++ringsT n X Y I N)
theorem rgM_len (m:List UInt8) (N:Nat) (n:Nat→Nat) (X Y:Nat→Nat→Nat) (I:Nat→Nat→Bool):(rgM m N n X Y I).length=32:=tagS_length _ _
set_option maxHeartbeats 4000000 in
set_option maxRecDepth 100000 in
theorem bind_any (w:World) (R:Option Addr) (NR cR:Nat) (a:Nat→Option Addr) (nk ck:Nat→Nat) (X Y:Nat→Nat→Nat) (I:Nat→Nat→Bool) (hX:∀ i k,X i k<K4) (hY:∀ i k,Y i k<K4) (hNR:NR≤4611686018427387904) (hnk:∀ i,nk i≤4611686018427387904) (hlr:Lst w 1 R NR (λi=>[.slice (a i) (nk i) (ck i)])) (hlk:∀ i,i<NR→Lst w 9 (a i) (nk i) (λk=>pml (X i k) (Y i k) (I i k))) (hN32:NR≤32) (hn64:∀ i,i<NR→nk i≤64) (A:Option Addr) (m:List UInt8) (n c:Nat) (hm:m.length=n) (hm9:n≤999000000) (hc:n≤c) (hc2:c≤9223372036854775807) (hs0:Sh.Src w A m) (ht:Sh.TabAt w 1):Calls Tryz.prog 46 #[.slice A n c,.slice R NR cR] w (Gets w (bndv R NR cR (rgM m NR nk X Y I))):=by
 have hlr0:=hlr
 obtain ⟨gR,oR,hR⟩:=hlr
 refine Sy.enter (args:=[.slice A n c,.slice R NR cR]) Tryz.func46 rfl kL ?_
 refine sC ?_
 refine sM 86 (bndc none 0 0 (List.replicate 32 (0:UInt8))).toArray (λg0=>?_)
 refine sA ?_
 refine sP (.slice A n c) ?_
 refine Sy.make kR 24 #[.slice A n c] (λg=>.slice (some ⟨g,0,none⟩) 1 1) kF (λg1=>?_)
 refine sP (.slice (some ⟨g1,0,none⟩) 1 1) ?_
 refine sG<|Sy.seq<|sC ?_
 refine sP (.slice R NR cR)<|sP (.int .i64 ((NR:Nat):Int))<|sP (.int .i64 0) ?_
 refine sG<|Sy.block ?_
 refine Sy.loopT (Y:=Slc×Blocks×List Sh.Tx) NR (λk1 y1=>[(1,.slice R NR cR),(4,.pointer (some ⟨g0,0,none⟩)),(5,y1.1.v),(12,.slice R NR cR),(13,.int .i64 ((NR:Nat):Int)),(14,.int .i64 ((k1:Nat):Int))]) (λk1 y1=>[(g0,86,(bndc none 0 0 (List.replicate 32 (0:UInt8))).toArray)]++(y1.1.bl++y1.2.1)) (λk1 y1=>TxsIs (Base.of w) 24 y1.1 y1.2.1 y1.2.2∧Sh.cat y1.2.2=m++ringsT nk X Y I k1∧y1.2.2.length≤1+65*k1) (⟨.slice (some ⟨g1,0,none⟩) 1 1,[(g1,24,#[.slice A n c])]⟩,[],[(⟨A,m,c⟩:Sh.Tx)]) ⟨TxsIs.start hm (λ_ _ hw=>⟨hs0.below hw.below,by show m.length≤c; omega,hc2⟩),by simp [Sh.cat,ringsT],by simp⟩ (all_cons kR (all_cons kR (all_cons kR (all_cons kR (all_cons kR (all_cons kR all_nil)))))) (λw hw=>hw) (λk1 y1 hk1 hh1=>?_)
 refine sC ?_
 obtain ⟨b1,hb1⟩:∃ z:Bool,z=decide (k1<NR):=⟨_,rfl⟩
 refine sS (.bool b1) (Quiet.pure (exec_int .lss _ _ _ .i64 _ _ _ rfl rfl rfl (int_lss _ _ _ _ _ (by rw [hb1]; exact decide_eq_decide.2 (by omega))))) ?_
 refine sG<|Sy.seq ?_
 cases b1
 ·have lb1:¬ (k1<NR):=of_decide_eq_false hb1.symm
  refine sU<|Sy.exit<|Sy.then_exit<|Sy.then_exit ?_
  obtain rfl:NR=k1:=by omega
  refine Sy.in_exit<|sB ?_
  refine sP (.slice R NR cR)<|sP (y1.1.v) ?_
  obtain ⟨bM,hbM⟩:∃ l,l=rgM m NR nk X Y I:=⟨_,rfl⟩
  have hbl:bM.length=32:=by rw [hbM]; exact rgM_len _ _ _ _ _ _
  refine sS (.agg (bM.map bv).toArray) (qG 106 #[.string rgRing,y1.1.v] (λw hw=>by obtain ⟨Q,d,hv,_,_,htx⟩:=hh1.1.texts; rw [hv,hbM]; have hq:=ringsT_len hn64 X Y I NR (Nat.le_refl _); have q:=Sh.tagged_any w rgRing Q y1.2.2 d (htx hw (λb hb=>List.mem_append.2 (.inr (List.mem_append.2 (.inl hb)))) (λb hb=>List.mem_append.2 (.inr (List.mem_append.2 (.inr hb))))) (ht.below hw.below ht.lt) (by decide) (by rw [hh1.2.1,List.length_append]; omega) (by omega); rw [hh1.2.1] at q; exact q))<|sS (bndv R NR cR bM) (Quiet.build2V 86 _ infBnd _ _ _ _ _ 32 rfl rfl rfl kR Tryz.underlying86 info_bnd rfl rfl kR ((List.length_map ..).trans hbl))<|sW 0 g0 86 (bndc none 0 0 (List.replicate 32 (0:UInt8))).toArray (bndc R NR cR bM).toArray (Writes.row 86 (bndc R NR cR bM) 33 _ _ rfl kR kR kR (bndc_len _ _ _ hbl) kR (bndc_one _ _ _ _)) ?_
  refine Sy.setT ?_
  refine sG<|Sy.ret ?_
  rw [← hbM]
  exact Sy.ret1 rfl (v:=bndv R NR cR bM) (.inl (Res.cell (ty':=86) g0 0 (bndc R NR cR bM).toArray _ kR kR Tryz.underlying86 rfl (by rw [List.size_toArray,bndc_len _ _ _ hbl]; kernel_rfl) rfl))
 ·have lb1:k1<NR:=of_decide_eq_true hb1.symm
  have hnk1:=hn64 k1 lb1
  obtain ⟨gK,oK,hT⟩:=hlk k1 lb1
  refine sT<|Sy.skip<|Sy.then_<|Sy.seq<|Sy.block<|sC ?_
  refine sS (.pointer (some ⟨gR,oR+k1*1,none⟩)) (Quiet.pure (exec_atO 25 _ _ _ R gR oR NR cR k1 1 .i64 (hR (by omega)).1 rfl rfl rfl Tryz.underlying25 kF (by omega)))<|sS (.slice (a k1) (nk k1) (ck k1)) (Quiet.thereOne gR (oR+k1*1) 45 _ _ rfl kR (hR (by omega)).2.1 _ (range_one ((hR (by omega)).2.2 k1 (by omega)) 0 rfl) Tryz.underlying45 rfl)<|sP (.slice (a k1) (nk k1) (ck k1)) ?_
  refine sA ?_
  refine sP (y1.1.v)<|sP (.slice (a k1) (nk k1) (ck k1))<|sP (.int .i64 (((nk k1):Nat):Int))<|sS (bv (UInt8.ofNat (nk k1))) (Quiet.pure (λw=>conv_u8 w _ _ _ (nk k1) (by omega) rfl rfl)) ?_
  refine Sy.make kR 5 #[bv (UInt8.ofNat (nk k1))] (λg=>.slice (some ⟨g,0,none⟩) 1 1) kF (λg2=>?_)
  refine Sy.movT ?_
  refine Sy.make kR 24 #[.slice (some ⟨g2,0,none⟩) 1 1] (λg=>.slice (some ⟨g,0,none⟩) 1 1) kF (λg3=>?_)
  refine Sy.movT ?_
  refine Sy.appendR kR 95 24 _ _ 1 24 Tryz.underlying95 info_sl rfl rfl rfl rfl (by decide) _ _ rfl hh1.1.row kR [.slice (some ⟨g2,0,none⟩) 1 1] rfl (one_sl _ _ _) 2 g3 24 kR kR (by (rw [List.length_map]); omega) (by (rw [List.length_map]); simp only [maxLen]; omega) (λr1 hr1=>?_)
  refine sP (r1.v) ?_
  refine sA ?_
  refine sP (.slice (a k1) (nk k1) (ck k1))<|sP (.int .i64 (((nk k1):Nat):Int))<|sP (.int .i64 0) ?_
  refine sG<|Sy.block ?_
  refine Sy.loopT (Y:=Slc×Blocks×List Sh.Tx) (nk k1) (λk2 y2=>[(1,.slice R NR cR),(4,.pointer (some ⟨g0,0,none⟩)),(5,y2.1.v),(7,.slice (a k1) (nk k1) (ck k1)),(12,.slice R NR cR),(13,.int .i64 ((NR:Nat):Int)),(14,.int .i64 ((k1:Nat):Int)),(25,.slice (a k1) (nk k1) (ck k1)),(26,.int .i64 (((nk k1):Nat):Int)),(27,.int .i64 ((k2:Nat):Int))]) (λk2 y2=>[(g0,86,(bndc none 0 0 (List.replicate 32 (0:UInt8))).toArray)]++(y2.1.bl++y2.2.1)) (λk2 y2=>TxsIs (Base.of w) 24 y2.1 y2.2.1 y2.2.2∧Sh.cat y2.2.2=m++(ringsT nk X Y I k1++(UInt8.ofNat (nk k1)::keysT (X k1) (Y k1) (I k1) k2))∧y2.2.2.length≤2+65*k1+k2) (r1,y1.2.1++[(g2,5,([UInt8.ofNat (nk k1)].map bv).toArray)],y1.2.2++[(⟨some ⟨g2,0,none⟩,[UInt8.ofNat (nk k1)],1⟩:Sh.Tx)]) ⟨hh1.1.add _ _ hr1 rfl (ok_blk (Nat.le_refl 1) (by decide)),by rw [cat_add,hh1.2.1,List.append_assoc]; rfl,by rw [List.length_append,List.length_singleton]; omega⟩ (all_cons kR (all_cons kR (all_cons kR (all_cons kR (all_cons kR (all_cons kR (all_cons kR (all_cons kR (all_cons kR (all_cons kR all_nil)))))))))) (λw hw=>Sy.St.pick2 (pre:=[(g0,86,(bndc none 0 0 (List.replicate 32 (0:UInt8))).toArray),(g2,5,#[bv (UInt8.ofNat (nk k1))]),(g3,24,#[.slice (some ⟨g2,0,none⟩) 1 1])]) (M:=[(g0,86,(bndc none 0 0 (List.replicate 32 (0:UInt8))).toArray)]) (N:=[(g2,5,([UInt8.ofNat (nk k1)].map bv).toArray)]) [0,1] (by decide) kR hw) (λk2 y2 hk2 hh2=>?_)
  refine sC ?_
  obtain ⟨b2,hb2⟩:∃ z:Bool,z=decide (k2<(nk k1)):=⟨_,rfl⟩
  refine sS (.bool b2) (Quiet.pure (exec_int .lss _ _ _ .i64 _ _ _ rfl rfl rfl (int_lss _ _ _ _ _ (by rw [hb2]; exact decide_eq_decide.2 (by omega))))) ?_
  refine sG<|Sy.seq ?_
  cases b2
  ·have lb2:¬ (k2<(nk k1)):=of_decide_eq_false hb2.symm
   refine sU<|Sy.exit<|Sy.then_exit<|Sy.then_exit ?_
   obtain rfl:k2=nk k1:=by omega
   refine Sy.in_exit<|Sy.in_<|Sy.then_<|Sy.region ?_
   refine sS (.int .i64 ((k1+1:Nat):Int)) (Quiet.pure (exec_int .add _ _ _ .i64 _ _ _ rfl rfl rfl (int_add _ _ _ _ _ ((wrap_i64 (by omega) (by omega)).trans (by omega)))))<|sP (.int .i64 ((k1+1:Nat):Int)) ?_
   refine Sy.nil ?_
   exact Sy.againT (y2) (by omega) (⟨hh2.1,by rw [hh2.2.1]; rfl,by omega⟩) (all_cons kR (all_cons kR (all_cons kR (all_cons kR (all_cons kR (all_cons kR all_nil)))))) (λw hw=>hw)
  ·have lb2:k2<(nk k1):=of_decide_eq_true hb2.symm
   refine sT<|Sy.skip<|Sy.then_<|Sy.seq<|Sy.block<|sC ?_
   refine sS (.pointer (some ⟨gK,oK+k2*9,none⟩)) (Quiet.pure (exec_atO 45 _ _ _ (a k1) gK oK (nk k1) (ck k1) k2 9 .i64 (hT (by omega)).1 rfl rfl rfl Tryz.underlying45 kF (by omega)))<|sS (pv (X k1 k2) (Y k1 k2) (I k1 k2)) (Quiet.there gK (oK+k2*9) 9 48 (pml (X k1 k2) (Y k1 k2) (I k1 k2)) _ _ rfl kR (hT (by omega)).2.1 ((hT (by omega)).2.2 k2 (by omega)) Tryz.underlying48 rfl kR rfl _ rfl) ?_
   refine sM 48 (pcs 0 0 false) (λg4=>?_)
   refine Sy.movT ?_
   refine sW 1 g4 48 (pcs 0 0 false) (pcs (X k1 k2) (Y k1 k2) (I k1 k2)) (wS 0 48 (pcs (X k1 k2) (Y k1 k2) (I k1 k2)) rfl) ?_
   refine Sy.setT ?_
   refine sG<|Sy.region ?_
   refine sP (y2.1.v)<|sS (pv (X k1 k2) (Y k1 k2) (I k1 k2)) (qL 1 g4 0 9 48 48 (pcs (X k1 k2) (Y k1 k2) (I k1 k2)) rfl Tryz.underlying48) ?_
   refine Sy.callN kR 105 #[pv (X k1 k2) (Y k1 k2) (I k1 k2)] kF ((CodeIs (dec (X k1 k2) (Y k1 k2) (I k1 k2)))) (λw hw=>code_any w _ _ _ (hX _ _) (hY _ _)) (λvq Mq hR0=>?_)
   obtain ⟨q7,rfl,rfl⟩:=hR0
   refine Sy.movT ?_
   refine Sy.make kR 24 #[.slice (some ⟨q7,0,none⟩) 33 33] (λg=>.slice (some ⟨g,0,none⟩) 1 1) kF (λg5=>?_)
   refine Sy.movT ?_
   refine Sy.appendR kR 95 24 _ _ 1 24 Tryz.underlying95 info_sl rfl rfl rfl rfl (by decide) _ _ rfl hh2.1.row kR [.slice (some ⟨q7,0,none⟩) 33 33] rfl (one_sl _ _ _) 3 g5 24 kR kR (by (rw [List.length_map]); omega) (by (rw [List.length_map]); simp only [maxLen]; omega) (λr2 hr2=>?_)
   refine sP (r2.v) ?_
   refine Sy.nil<|Sy.in_<|Sy.then_<|Sy.region ?_
   refine sS (.int .i64 ((k2+1:Nat):Int)) (Quiet.pure (exec_int .add _ _ _ .i64 _ _ _ rfl rfl rfl (int_add _ _ _ _ _ ((wrap_i64 (by omega) (by omega)).trans (by omega)))))<|sP (.int .i64 ((k2+1:Nat):Int)) ?_
   refine Sy.nil ?_
   exact Sy.againT ((r2,y2.2.1++[(q7,191,((encS (dec (X k1 k2) (Y k1 k2) (I k1 k2))).map bv).toArray)],y2.2.2++[(⟨some ⟨q7,0,none⟩,encS (dec (X k1 k2) (Y k1 k2) (I k1 k2)),33⟩:Sh.Tx)])) (by omega) (⟨hh2.1.add _ _ hr2 (val_blk (encS_length _)) (ok_blk (by rw [encS_length]; decide) (by decide)),by rw [cat_add,hh2.2.1,List.append_assoc,List.append_assoc,List.cons_append]; rfl,by rw [List.length_append,List.length_singleton]; omega⟩) (all_cons kR (all_cons kR (all_cons kR (all_cons kR (all_cons kR (all_cons kR (all_cons kR (all_cons kR (all_cons kR (all_cons kR all_nil)))))))))) (λw hw=>Sy.St.pick2 (pre:=[(g0,86,(bndc none 0 0 (List.replicate 32 (0:UInt8))).toArray),(g4,48,(pcs (X k1 k2) (Y k1 k2) (I k1 k2))),(q7,191,((encS (dec (X k1 k2) (Y k1 k2) (I k1 k2))).map bv).toArray),(g5,24,#[.slice (some ⟨q7,0,none⟩) 33 33])]) (M:=[(g0,86,(bndc none 0 0 (List.replicate 32 (0:UInt8))).toArray)]) (N:=[(q7,191,((encS (dec (X k1 k2) (Y k1 k2) (I k1 k2))).map bv).toArray)]) [0,2] (by decide) kR hw)
end Cu
end
section
namespace Sy
open Go.RowKit
section
variable {P:Program} {w0:Base} {n:Nat} {Q:Exit→Act→World→Prop} {F:Slots} {L pre T:Blocks} {ops:Array Oper} {o:Oper} {l:List Oper}
theorem appendZ (hg:good ops n F o=true) (ts tn e:TypeId) (inf:TypeInfo) (z:Value) (sz by_:Nat) (ht:P.underlying ts=some (.slice e)) (htn:P.underlying tn=some (.int .i64)) (hinf:P.info? e=some inf) (hz:inf.zero=some z) (hs1:inf.size=sz) (hb1:inf.bytes=by_) (hzs:z.cells.size=sz) (h0:0<sz)
  (s x:Operand) (ho:o.op=.call { callee:=.builtin .append,args:=#[s,x],argTypes:=#[ts,tn] }) (hs:evF F s=.slice none 0 0) (m:Nat) (hm0:0<m) (hx:evF F x=.int .i64 (m:Int)) (hsmall:m*by_≤140737488355328) (h63:m≤maxLen)
  (h:∀ (g cap:Nat) (cs:List Value),cs.length=cap*sz→m≤cap→cap≤maxLen→wpS P w0 n ops Q (putF F o.dst (.slice (some ⟨g,0,none⟩) m cap)) (L++[(g,e,cs.toArray)]) l):wpS P w0 n ops Q F L (o::l):=λa w ha hw=>by
 obtain ⟨k1,_,k3,_⟩:=good_spec hg
 refine wpList_step λK hK=>?_
 rw [if_pos (ha.wanted k1)]
 have h63':(m:Int)≤9223372036854775807:=by simp only [maxLen] at h63; omega
 have hr:=Lib.run_append_nil_zeros (P:=P) w ts tn o.type e inf z .i64 .i64 ht htn hinf hz m hm0 (by omega) h63' (by rw [hb1]; omega)
 have hc1:=grownCap_ge w m 0 e
 have hc2:=grownCap_le_maxLen w m 0 e h63
 unfold Oper.wp
 rw [good_exec hg ha]
 unfold execOp
 simp only [ho,resolve,invoke,builtin,Sem.run_bind,Sem.run_pure,Result.andThen_ok,List.map_toArray,List.map_cons,List.map_nil,hs,hx,hr]
 have hgr:Gr w (w.drew.alloc (.cells (Builtin.zeroCells z.cells m++Builtin.zeroCells z.cells (grownCap w m 0 e - m)) e)):=(show Gr w w.drew from (Below.refl _ _).drew).trans (gr_alloc _ _)
 exact hK _ _ (h w.heap.size (grownCap w m 0 e) (Builtin.zeroCells z.cells m++Builtin.zeroCells z.cells (grownCap w m 0 e - m)).toList (by
  rw [Array.length_toList,Array.size_append,size_zeroCells,size_zeroCells,hzs, ← Nat.add_mul]
  congr 1
  omega) hc1 hc2 _ _ (ha.put k3 _) (hw.add hgr (Nat.le_refl _) (Blk.new w.drew e _)))
theorem appendM (hg:good ops n F o=true) (ts e:TypeId) (inf:TypeInfo) (z:Value) (sz by_:Nat) (ht:P.underlying ts=some (.slice e)) (hinf:P.info? e=some inf) (hz:inf.zero=some z) (hs1:inf.size=sz) (hb1:inf.bytes=by_) (hzs:z.cells.size=sz) (h0:0<sz)
  (s x:Operand) (ho:o.op=.call { callee:=.builtin .append,args:=#[s,x],argTypes:=#[ts,ts] })
  {r:Slc} {xs ys:List (List Value)} (hr:r.Is e sz xs) (hs:evF F s=r.v) (hy:∀ y∈ys,y.length=sz) (hy1:∀ y∈ys, ∀ u∈y,u.oneCell'=true)
  (A:Option Addr) (m c:Nat) (hm:ys.length=m) (hmc:m≤c) (hx:evF F x=.slice A m c) (hf:∀ r:Slc,From w0 (pre++(r.bl++T)) A ys.flatten) (hsmall:(xs.length+m)*by_≤140737488355328) (h63:xs.length+m≤maxLen)
  (h:∀ r':Slc,r'.Is e sz (xs++ys)→wpS P w0 n ops Q (putF F o.dst r'.v) (pre++(r'.bl++T)) l):wpS P w0 n ops Q F (pre++(r.bl++T)) (o::l):=by
 have hlen:∀ u∈xs++ys,u.length=sz:=λu hu=>(List.mem_append.1 hu).elim (hr.len u) (hy u)
 have hone:∀ u∈xs++ys, ∀ v∈u,v.oneCell'=true:=λu hu=>(List.mem_append.1 hu).elim (hr.one u) (hy1 u)
 have hyl:ys.flatten.length=m*sz:=by rw [flat_len' hy,hm]
 have hyo:∀ u∈ys.flatten,u.oneCell'=true:=λu hu=>by
  obtain ⟨y,h1,h2⟩:=List.mem_flatten.1 hu
  exact hy1 y h1 u h2
 rcases hr.row with ⟨rfl,rfl⟩ | ⟨g,cap,sp,rfl,q1,q2,q3⟩
 ·rcases Nat.eq_zero_or_pos m with rfl | hm0
  ·obtain rfl:ys=[]:=List.eq_nil_of_length_eq_zero hm
   intro a w ha hw
   obtain ⟨k1,_,k3,_⟩:=good_spec hg
   refine wpList_step λK hK=>?_
   rw [if_pos (ha.wanted k1)]
   have hfc:(Builtin.firstCells inf.size 0 (.slice A 0 c)).run P w=.ok #[] w:=by
    cases A with
    | none=>simp [Builtin.firstCells,Sem.run_pure]
    | some a=>simpa using run_firstCells_some (P:=P) w inf.size 0 a 0 c [] (by simp) (λj u hj=>by cases hj)
   have hrn:(Builtin.append_ #[ts,ts] o.type #[.slice none 0 0,.slice A 0 c]).run P w=.ok (.slice none 0 0) w:=by
    simp [Builtin.append_,run_underlying ht,sizeOf,typeInfo,hinf,Builtin.lenOf,hfc]
   unfold Oper.wp
   rw [good_exec hg ha]
   unfold execOp
   simp only [ho,resolve,invoke,builtin,Sem.run_bind,Sem.run_pure,Result.andThen_ok,List.map_toArray,List.map_cons,List.map_nil,hs,hx,hrn]
   exact hK _ _ (h nilS (Slc.Is.nil e sz) _ _ (ha.put k3 _) hw)
  ·refine appendGNil hg ts e inf z sz by_ ht hinf hz hs1 hb1 hzs h0 s x ho hs A m c ys.flatten hx (hf _) hyl hm0 hyo (by simpa using hsmall) (by simpa using h63) (λg' cap' sp' h1 h2 h3=>?_)
   have hq:=h ⟨.slice (some ⟨g',0,none⟩) m cap',[(g',e,(ys.flatten++sp').toArray)]⟩ ⟨hlen,hone,.inr ⟨g',cap',sp',by simp [hm],by simpa [hm] using h1,by simpa [hm] using h2,h3⟩⟩
   exact permS (by
    rw [List.nil_append,List.append_assoc]
    exact (List.perm_append_comm (l₁:=T) (l₂:=[(g',e,(ys.flatten++sp').toArray)])).append_left pre) hq
 ·have hi:(pre++([(g,e,(xs.flatten++sp).toArray)]++T))[pre.length]? = some (g,e,(xs.flatten++sp).toArray):=by
   rw [List.getElem?_append_right (Nat.le_refl _),Nat.sub_self]
   rfl
  refine appendG hg ts e inf z sz by_ ht hinf hz hs1 hb1 hzs h0 s x ho pre.length g xs.length cap xs.flatten sp hs hi (flat_len' hr.len) q1 q3 A m c ys.flatten hx (hf ⟨.slice none 0 0,[(g,e,(xs.flatten++sp).toArray)]⟩) hyl hmc hyo hsmall h63 (λg' cap' sp' h1 h2 h3=>?_)
  have hq:=h ⟨.slice (some ⟨g',0,none⟩) (xs.length+m) cap',[(g',e,(xs.flatten++ys.flatten++sp').toArray)]⟩ ⟨hlen,hone,.inr ⟨g',cap',sp',by simp [hm],by simpa [hm] using h1,by simpa [hm] using h2,h3⟩⟩
  have he:(pre++([(g,e,(xs.flatten++sp).toArray)]++T)).set pre.length (g',e,(xs.flatten++ys.flatten++sp').toArray)=pre++([(g',e,(xs.flatten++ys.flatten++sp').toArray)]++T):=by
   rw [List.set_append_right _ _ (Nat.le_refl _),Nat.sub_self]
   rfl
  rw [he]
  exact hq
end
theorem From.lst {w0:Base} {L:Blocks} {s m:Nat} {A:Option Addr} {f:Nat→List Value} (hl:Lst w0.world s A m f) (hf:∀ k,(f k).length=s):From w0 L A ((List.range m).map f).flatten:=λw hw=>by
 rcases Nat.eq_zero_or_pos m with rfl | hm
 ·exact .inl rfl
 obtain ⟨g,o,q⟩:=hl
 obtain ⟨rfl,h2,h3⟩:=q hm
 refine .inr ⟨_,rfl,λj u hj=>?_⟩
 rw [addr_off]
 refine (hw.below.cell (p:=⟨g,o+j,none⟩) h2).trans ?_
 clear q
 induction m with
 | zero=>simp at hj
 | succ k ih =>
  rw [List.range_succ,List.map_append,List.flatten_append,List.map_singleton,List.flatten_singleton] at hj
  have hlen:((List.range k).map f).flatten.length=k*s:=by
   rw [flat_len' (sz:=s) (λx hx=>by obtain ⟨i,_,rfl⟩:=List.mem_map.1 hx; exact hf i),List.length_map,List.length_range]
  by_cases hjk:j<k*s
  ·rw [List.getElem?_append_left (by omega)] at hj
   exact ih (Nat.pos_of_ne_zero λh=>by subst h; simp at hjk) (λi hi=>h3 i (by omega)) hj
  ·rw [List.getElem?_append_right (by omega),hlen] at hj
   have:=h3 k (by omega) (j - k*s) u hj
   rwa [show o+k*s+(j - k*s)=o+j by omega] at this
theorem retGM {P:Program} {w1:World} {n:Nat} {F:Slots} {L:Blocks} {fn:Func} {r:ResultVar} {v:Value} {R:Value→Blocks→Prop} (M:Blocks) (hr:fn.results=#[r]) (h:Has P F L r v) (hM:∀ w,St (Base.of w1) w L→St (Base.of w1) w M) (hR:R v M):X (Base.of w1) n (bodyPost P fn (GetsN w1 R)) F L .ret:=λa w ha hw=>by
 refine bodyPost_ret (v:=v) ?_ ha.1 ⟨v,M,rfl,hR,hw.below,λg t cs hm=>(hM w hw).blk g t cs hm,(hM w hw).apart⟩
 rcases Res.run h ha hw with ⟨t,rfl,e1⟩ | ⟨t,ty,ad,rfl,e1,e2⟩ <;> simp [results,Result.andThen, *]
def GivesRow (e:TypeId) (sz:Nat) (xs:List (List Value)) (v:Value) (M:Blocks):Prop:=∃ y:Slc,y.Is e sz xs∧v=y.v∧M=y.bl
end Sy
end
section
namespace Cu
open Go.RowKit Sy
set_option maxRecDepth 100000
set_option maxHeartbeats 4000000
def sumN (n:Nat→Nat):Nat→Nat
 | 0=>0
 | k+1=>sumN n k+n k
theorem sumN_mono (n:Nat→Nat):∀ {k m:Nat},k≤m→sumN n k≤sumN n m
 | k,0,h=>by rw [Nat.le_zero.1 h]; exact Nat.le_refl _
 | k,m+1,h=>by
  rcases Nat.lt_or_eq_of_le h with h1 | h1
  ·exact Nat.le_trans (sumN_mono n (Nat.le_of_lt_succ h1)) (Nat.le_add_right _ _)
  ·rw [h1]; exact Nat.le_refl _
def catR (n:Nat→Nat) (f:Nat→Nat→List Value):Nat→List (List Value)
 | 0=>[]
 | k+1=>catR n f k++(List.range (n k)).map (f k)
theorem catR_len (n:Nat→Nat) (f:Nat→Nat→List Value):∀ k,(catR n f k).length=sumN n k
 | 0=>rfl
 | k+1=>by
  show (catR n f k++_).length=sumN n k+n k
  rw [List.length_append,catR_len n f k,List.length_map,List.length_range]
theorem growB_any (w:World) (q:Nat) (hq:q≤1000000):Calls Tryz.prog 220 #[.slice none 0 0,.int .i64 ((q:Nat):Int)] w (GetsN w (GivesRow 24 1 [])):=by
 refine Sy.enter (args:=[.slice none 0 0,.int .i64 ((q:Nat):Int)]) Tryz.func220 rfl kL ?_
 refine sC ?_
 refine sP (.slice none 0 0) ?_
 refine sG<|Sy.seq<|sC ?_
 refine sP (.int .i64 ((q:Nat):Int)) ?_
 obtain ⟨b1,hb1⟩:∃ z:Bool,z=decide (q<0):=⟨_,rfl⟩
 refine sS (.bool b1) (Quiet.pure (exec_int .lss _ _ _ .i64 _ _ _ rfl rfl rfl (int_lss _ _ _ _ _ (by rw [hb1]; exact decide_eq_decide.2 (by omega))))) ?_
 refine sG ?_
 cases b1
 ·have lb1:¬ (q<0):=of_decide_eq_false hb1.symm
  refine sU<|Sy.skip<|Sy.then_<|Sy.seq<|sC ?_
  refine sP (.int .i64 ((q:Nat):Int))<|sP (.slice none 0 0)<|sP (.int .i64 0)<|sP (.slice none 0 0)<|sP (.int .i64 0)<|sP (.int .i64 0)<|sS (.int .i64 ((q:Nat):Int)) (Quiet.pure (exec_int .sub _ _ _ .i64 _ _ _ rfl rfl rfl (int_sub _ _ _ _ _ ((wrap_i64 (by omega) (by omega)).trans (by omega)))))<|sP (.int .i64 ((q:Nat):Int)) ?_
  refine sA ?_
  refine sP (.int .i64 ((q:Nat):Int)) ?_
  obtain ⟨b2,hb2⟩:∃ z:Bool,z=decide (q>0):=⟨_,rfl⟩
  refine sS (.bool b2) (Quiet.pure (exec_int .gtr _ _ _ .i64 _ _ _ rfl rfl rfl (int_gtr _ _ _ _ _ (by rw [hb2]; exact decide_eq_decide.2 (by omega))))) ?_
  refine sG ?_
  cases b2
  ·have lb2:¬ (q>0):=of_decide_eq_false hb2.symm
   refine sU<|Sy.skip<|sB ?_
   refine sP (.slice none 0 0)<|sP (.slice none 0 0) ?_
   refine sG<|Sy.ret ?_
   exact retGM [] rfl (v:=.slice none 0 0) (.inl (show _=_ by kernel_rfl)) (λ_ hw=>hw) ⟨nilS,Slc.Is.nil _ _,rfl,rfl⟩
  ·have lb2:q>0:=of_decide_eq_true hb2.symm
   refine sT<|Sy.region ?_
   refine sP (.slice none 0 0)<|sP (.slice none 0 0)<|sP (.int .i64 0)<|sP (.slice none 0 0)<|sP (.int .i64 ((q:Nat):Int)) ?_
   refine Sy.appendZ kR 95 3 24 _ _ 1 24 Tryz.underlying95 Tryz.underlying3 info_sl rfl rfl rfl rfl (by decide) _ _ rfl rfl q (by omega) rfl (by omega) (by simp only [maxLen]; omega) (λgz cz zs hz1 hz2 hz3=>?_)
   refine sP (.slice none 0 0)<|sP (.int .i64 0)<|sS (.slice (some ⟨gz,0,none⟩) 0 cz) (Quiet.pure (exec_upto 95 _ _ gz 0 q cz 0 1 .i64 rfl rfl rfl Tryz.underlying95 kF (Nat.zero_le _)))<|sP (.slice (some ⟨gz,0,none⟩) 0 cz) ?_
   refine sA ?_
   refine sP (.slice (some ⟨gz,0,none⟩) 0 cz)<|sP (.slice (some ⟨gz,0,none⟩) 0 cz) ?_
   refine sG<|Sy.ret ?_
   exact retGM [(gz,24,zs.toArray)] rfl (v:=.slice (some ⟨gz,0,none⟩) 0 cz) (.inl (show _=_ by kernel_rfl)) (λ_ hw=>hw) ⟨⟨.slice (some ⟨gz,0,none⟩) 0 cz,[(gz,24,zs.toArray)]⟩,Slc.Is.mk' (by simp) (by simp) rfl (by simp) hz1 (Nat.zero_le _) hz3,rfl,rfl⟩
 ·have lb1:q<0:=of_decide_eq_true hb1.symm
  exact absurd lb1 (by omega)
theorem concatB_any (w:World) (T:Option Addr) (N d:Nat) (a:Nat→Option Addr) (n c:Nat→Nat) (f:Nat→Nat→List Value) (hf1:∀ i k,(f i k).length=1) (hf2:∀ i k, ∀ u∈f i k,u.oneCell'=true) (hN:N≤1000000) (hs:sumN n N≤1000000) (hnc:∀ i,i<N→n i≤c i) (hlt:Lst w 1 T N (λi=>[.slice (a i) (n i) (c i)])) (hl:∀ i,i<N→Lst w 1 (a i) (n i) (f i)):Calls Tryz.prog 172 #[.slice T N d] w (GetsN w (GivesRow 24 1 (catR n f N))):=by
 obtain ⟨gT,oT,hT⟩:=hlt
 refine Sy.enter (args:=[.slice T N d]) Tryz.func172 rfl kL ?_
 refine sC ?_
 refine sP (.slice none 0 0) ?_
 refine sA ?_
 refine sP (.int .i64 0) ?_
 refine sG<|Sy.seq<|sC ?_
 refine sP (.slice T N d)<|sP (.int .i64 ((N:Nat):Int))<|sP (.int .i64 0) ?_
 refine sG<|Sy.block ?_
 refine Sy.loopK N (λk1=>[(0,.slice T N d),(3,.int .i64 (((sumN n k1):Nat):Int)),(9,.slice T N d),(10,.int .i64 ((N:Nat):Int)),(11,.int .i64 ((k1:Nat):Int))]) (λk1=>[]) [] (M:=[]) (all_cons kR (all_cons kR (all_cons kR (all_cons kR (all_cons kR all_nil))))) kR rfl (λk1 hk1=>?_)
 refine sC ?_
 obtain ⟨b1,hb1⟩:∃ z:Bool,z=decide (k1<N):=⟨_,rfl⟩
 refine sS (.bool b1) (Quiet.pure (exec_int .lss _ _ _ .i64 _ _ _ rfl rfl rfl (int_lss _ _ _ _ _ (by rw [hb1]; exact decide_eq_decide.2 (by omega))))) ?_
 refine sG<|Sy.seq ?_
 cases b1
 ·have lb1:¬ (k1<N):=of_decide_eq_false hb1.symm
  refine sU<|Sy.exit<|Sy.then_exit<|Sy.then_exit ?_
  obtain rfl:N=k1:=by omega
  refine Sy.in_exit<|sB ?_
  refine sP (.int .i64 (((sumN n N):Nat):Int)) ?_
  refine Sy.callN kR 220 #[.slice none 0 0,.int .i64 (((sumN n N):Nat):Int)] kF (GivesRow 24 1 []) (λw hw=>growB_any w _ (by omega)) (λvq Mq hR0=>?_)
  obtain ⟨y0,hy0,rfl,rfl⟩:=hR0
  refine sP (y0.v) ?_
  refine sG<|Sy.seq<|sC ?_
  refine sP (.slice T N d)<|sP (.int .i64 ((N:Nat):Int))<|sP (.int .i64 0) ?_
  refine sG<|Sy.block ?_
  refine Sy.loopT (Y:=Slc) N (λk1 y1=>[(0,.slice T N d),(6,y1.v),(25,.slice T N d),(26,.int .i64 ((N:Nat):Int)),(27,.int .i64 ((k1:Nat):Int))]) (λk1 y1=>[]++(y1.bl++[])) (λk1 y1=>y1.Is 24 1 (catR n f k1)) y0 hy0 (all_cons kR (all_cons kR (all_cons kR (all_cons kR (all_cons kR all_nil))))) (λw hw=>by simpa using hw) (λk1 y1 hk1 hh1=>?_)
  refine sC ?_
  obtain ⟨b2,hb2⟩:∃ z:Bool,z=decide (k1<N):=⟨_,rfl⟩
  refine sS (.bool b2) (Quiet.pure (exec_int .lss _ _ _ .i64 _ _ _ rfl rfl rfl (int_lss _ _ _ _ _ (by rw [hb2]; exact decide_eq_decide.2 (by omega))))) ?_
  refine sG<|Sy.seq ?_
  cases b2
  ·have lb2:¬ (k1<N):=of_decide_eq_false hb2.symm
   refine sU<|Sy.exit<|Sy.then_exit<|Sy.then_exit ?_
   obtain rfl:N=k1:=by omega
   refine Sy.in_exit<|sB ?_
   refine sP (y1.v)<|sP (y1.v) ?_
   refine sG<|Sy.ret ?_
   exact retGM (y1.bl) rfl (v:=y1.v) (.inl (show _=_ by kernel_rfl)) (λ_ hw=>by simpa using hw) ⟨y1,hh1,rfl,rfl⟩
  ·have lb2:k1<N:=of_decide_eq_true hb2.symm
   have hsk:sumN n k1+n k1≤sumN n N:=sumN_mono n (show k1+1≤N by omega)
   refine sT<|Sy.skip<|Sy.then_<|Sy.seq<|Sy.block<|sC ?_
   refine sS (.pointer (some ⟨gT,oT+k1*1,none⟩)) (Quiet.pure (exec_atO 260 _ _ _ T gT oT N d k1 1 .i64 (hT (by omega)).1 rfl rfl rfl Tryz.underlying260 kF (by omega)))<|sS (.slice (a k1) (n k1) (c k1)) (Quiet.thereOne gT (oT+k1*1) 95 _ _ rfl kR (hT (by omega)).2.1 _ (range_one ((hT (by omega)).2.2 k1 (by omega)) 0 rfl) Tryz.underlying95 rfl)<|sP (.slice (a k1) (n k1) (c k1)) ?_
   refine sG<|Sy.region ?_
   refine sP (y1.v)<|sP (.slice (a k1) (n k1) (c k1)) ?_
   refine Sy.appendM kR 95 24 _ _ 1 24 Tryz.underlying95 info_sl rfl rfl rfl rfl (by decide) _ _ rfl (ys:=(List.range (n k1)).map (f k1)) hh1 kR (λz hz=>by obtain ⟨i,_,rfl⟩:=List.mem_map.1 hz; exact hf1 _ _) (λz hz=>by obtain ⟨i,_,rfl⟩:=List.mem_map.1 hz; exact hf2 _ _) (a k1) (n k1) (c k1) (by rw [List.length_map,List.length_range]) (hnc k1 (by omega)) kR (λ_=>From.lst (hl k1 (by omega)) (hf1 k1)) (by rw [catR_len]; omega) (by rw [catR_len]; simp only [maxLen]; omega) (λr1 hr1=>?_)
   refine sP (r1.v) ?_
   refine Sy.nil<|Sy.in_<|Sy.then_<|Sy.region ?_
   refine sS (.int .i64 ((k1+1:Nat):Int)) (Quiet.pure (exec_int .add _ _ _ .i64 _ _ _ rfl rfl rfl (int_add _ _ _ _ _ ((wrap_i64 (by omega) (by omega)).trans (by omega)))))<|sP (.int .i64 ((k1+1:Nat):Int)) ?_
   refine Sy.nil ?_
   exact Sy.againT (r1) (by omega) (hr1) (all_cons kR (all_cons kR (all_cons kR (all_cons kR (all_cons kR all_nil))))) (λw hw=>hw)
 ·have lb1:k1<N:=of_decide_eq_true hb1.symm
  have hsk:sumN n k1+n k1≤sumN n N:=sumN_mono n (show k1+1≤N by omega)
  refine sT<|Sy.skip<|Sy.then_<|Sy.seq<|Sy.block<|sC ?_
  refine sS (.pointer (some ⟨gT,oT+k1*1,none⟩)) (Quiet.pure (exec_atO 260 _ _ _ T gT oT N d k1 1 .i64 (hT (by omega)).1 rfl rfl rfl Tryz.underlying260 kF (by omega)))<|sS (.slice (a k1) (n k1) (c k1)) (Quiet.thereOne gT (oT+k1*1) 95 _ _ rfl kR (hT (by omega)).2.1 _ (range_one ((hT (by omega)).2.2 k1 (by omega)) 0 rfl) Tryz.underlying95 rfl)<|sP (.slice (a k1) (n k1) (c k1)) ?_
  refine sA ?_
  refine sP (.int .i64 (((sumN n k1):Nat):Int))<|sP (.slice (a k1) (n k1) (c k1))<|sP (.int .i64 (((n k1):Nat):Int))<|sS (.int .i64 (((sumN n k1)+(n k1):Nat):Int)) (Quiet.pure (exec_int .add _ _ _ .i64 _ _ _ rfl rfl rfl (int_add _ _ _ _ _ ((wrap_i64 (by omega) (by omega)).trans (by omega)))))<|sP (.int .i64 (((sumN n k1)+(n k1):Nat):Int)) ?_
  refine sA ?_
  refine sP (.int .i64 (((sumN n k1)+(n k1):Nat):Int)) ?_
  obtain ⟨b3,hb3⟩:∃ z:Bool,z=decide ((sumN n k1)+(n k1)<0):=⟨_,rfl⟩
  refine sS (.bool b3) (Quiet.pure (exec_int .lss _ _ _ .i64 _ _ _ rfl rfl rfl (int_lss _ _ _ _ _ (by rw [hb3]; exact decide_eq_decide.2 (by omega))))) ?_
  refine sG ?_
  cases b3
  ·have lb3:¬ ((sumN n k1)+(n k1)<0):=of_decide_eq_false hb3.symm
   refine sU<|Sy.skip<|Sy.in_<|Sy.then_<|Sy.region ?_
   refine sS (.int .i64 ((k1+1:Nat):Int)) (Quiet.pure (exec_int .add _ _ _ .i64 _ _ _ rfl rfl rfl (int_add _ _ _ _ _ ((wrap_i64 (by omega) (by omega)).trans (by omega)))))<|sP (.int .i64 ((k1+1:Nat):Int)) ?_
   refine Sy.nil ?_
   exact Sy.againK [] (M:=[]) (by omega) (all_cons kR (all_cons kR (all_cons kR (all_cons kR (all_cons kR all_nil))))) kR rfl
  ·have lb3:(sumN n k1)+(n k1)<0:=of_decide_eq_true hb3.symm
   exact absurd lb3 (by omega)
end Cu
end
section
namespace Cu
open Go.RowKit Sy
theorem bnd_whole {R:Option Addr} {NR cR:Nat} {bm:List UInt8} (h:bm.length=32):Value.agg ((((bndc R NR cR bm).toArray).toList.drop 0).take 33).toArray=bndv R NR cR bm:=by
 unfold bndv
 rw [List.drop_zero,List.take_of_length_le (by show (bndc R NR cR bm).length≤33; simp [bndc,h])]
theorem bnd_size {R:Option Addr} {NR cR:Nat} {bm:List UInt8} (h:bm.length=32):0+33≤((bndc R NR cR bm).toArray).size:=by simp [bndc,h]
def alX (s:Nat→Nat) (bm:List UInt8) (i f:Nat) (X Y:Nat→Nat) (I:Nat→Bool) (x:List UInt8):Nat→List UInt8
 | 0=>x
 | k+1=>encS (rPt (s (f+k)) (rgC bm (alX s bm i f X Y I x k) i (f+k)) (X (f+k)) (Y (f+k)) (I (f+k)))
theorem alX_len {s:Nat→Nat} {bm:List UInt8} {i f k:Nat} {X Y:Nat→Nat} {I:Nat→Bool} {x:List UInt8} (hk:0<k):(alX s bm i f X Y I x k).length=33:=by
 cases k with
 | zero=>exact absurd hk (Nat.lt_irrefl _)
 | succ k=>exact encS_length _
def AlS (A:Option Addr) (n c:Nat) (e:TypeId) (l:List UInt8) (k:Nat) (y:Value×Blocks):Prop:=(k=0∧y=(.slice A n c,[]))∨(0<k∧∃ q,y=(.slice (some ⟨q,0,none⟩) 33 33,[(q,e,(l.map bv).toArray)]))
def AlR (A:Option Addr) (n c M:Nat) (l:List UInt8) (v:Value) (L:Blocks):Prop:=(M=0∧v=.slice A n c∧L=[])∨(0<M∧∃ q,v=.slice (some ⟨q,0,none⟩) 33 33∧L=[(q,191,(l.map bv).toArray)])
theorem retG0 {w1:World} {n:Nat} {F:Slots} {L:Blocks} {fn:Func} {r:ResultVar} {v:Value} {R:Value→Blocks→Prop} (hr:fn.results=#[r]) (h:Sy.Has Tryz.prog F L r v) (hR:R v []):Sy.X (Sy.Base.of w1) n (bodyPost Tryz.prog fn (Sy.GetsN w1 R)) F L .ret:=λa w ha hw=>by
 refine bodyPost_ret (v:=v) ?_ ha.1 ⟨v,[],rfl,hR,hw.below,λg t cs hm=>(by cases hm),by simp⟩
 rcases Sy.Res.run h ha hw with ⟨t,rfl,e1⟩ | ⟨t,ty,ad,rfl,e1,e2⟩ <;> simp [results,Result.andThen, *]
set_option maxHeartbeats 4000000 in
set_option maxRecDepth 100000 in
theorem alongG_any (w:World) (R:Option Addr) (NR cR:Nat) (a:Nat→Option Addr) (nk ck:Nat→Nat) (X Y:Nat→Nat→Nat) (I:Nat→Nat→Bool) (hX:∀ i k,X i k<K4) (hY:∀ i k,Y i k<K4) (hNR:NR≤4611686018427387904) (hnk:∀ i,nk i≤4611686018427387904) (hlr:Lst w 1 R NR (λi=>[.slice (a i) (nk i) (ck i)])) (hlk:∀ i,i<NR→Lst w 9 (a i) (nk i) (λk=>pml (X i k) (Y i k) (I i k))) (bm:List UInt8) (hbm:bm.length=32) (A:Option Addr) (x:List UInt8) (n c:Nat) (hx:x.length=n) (hm:n≤999999900) (hc:n≤c) (hc2:c≤9223372036854775807) (hs0:Sh.Src w A x) (W:Option Addr) (NW cW:Nat) (s:Nat→Nat) (hsc:∀ k,s k<K4) (hlw:Lst w 4 W NW (λk=>fws (s k))) (i f M:Nat) (hi:i<NR) (hi2:i<256) (hM:f+M≤256) (hM1:f+M≤NW) (hM2:f+M≤nk i) (ht:Sh.TabAt w 1):Calls Tryz.prog 111 #[bndv R NR cR bm,.slice A n c,.slice W NW cW,.int .i64 ((i:Nat):Int),.int .i64 ((f:Nat):Int),.int .i64 (((f+M):Nat):Int)] w (GetsN w (AlR A n c M (alX s bm i f (X i) (Y i) (I i) x M))):=by
 obtain ⟨gR,oR,hR⟩:=hlr
 obtain ⟨gW,oW,hW⟩:=hlw
 obtain ⟨gK,oK,hT⟩:=hlk i hi
 refine Sy.enter (args:=[bndv R NR cR bm,.slice A n c,.slice W NW cW,.int .i64 ((i:Nat):Int),.int .i64 ((f:Nat):Int),.int .i64 (((f+M):Nat):Int)]) Tryz.func111 rfl kL ?_
 refine sC ?_
 refine sM 86 (bndc R NR cR bm).toArray (λg0=>?_)
 refine sP (.slice none 0 0) ?_
 refine sG<|Sy.seq<|sC ?_
 refine sP (.int .i64 ((f:Nat):Int))<|sP (.int .i64 ((f:Nat):Int)) ?_
 refine sG<|Sy.block ?_
 refine Sy.loopT (Y:=Value×Blocks) M (λk1 y1=>[(1,y1.1),(2,.slice W NW cW),(3,.int .i64 ((i:Nat):Int)),(5,.int .i64 (((f+M):Nat):Int)),(6,.pointer (some ⟨g0,0,none⟩)),(13,.int .i64 (((f+k1):Nat):Int))]) (λk1 y1=>[(g0,86,(bndc R NR cR bm).toArray)]++y1.2) (λk1 y1=>AlS A n c 191 (alX s bm i f (X i) (Y i) (I i) x k1) k1 y1) (.slice A n c,[]) (.inl ⟨rfl,rfl⟩) (all_cons kR (all_cons kR (all_cons kR (all_cons kR (all_cons kR (all_cons kR all_nil)))))) (λw hw=>hw) (λk1 y1 hk1 hh1=>?_)
 obtain ⟨xk,hxk⟩:∃ l,l=alX s bm i f (X i) (Y i) (I i) x k1:=⟨_,rfl⟩
 rw [← hxk] at hh1
 rcases hh1 with ⟨hk0,rfl⟩ | ⟨hk0,q0,rfl⟩
 ·have exk:xk=x:=by rw [hxk,hk0]; rfl
  refine Sy.seq<|sC ?_
  refine sP (.int .i64 (((f+k1):Nat):Int))<|sP (.int .i64 (((f+M):Nat):Int)) ?_
  obtain ⟨b1,hb1⟩:∃ z:Bool,z=decide ((f+k1)<(f+M)):=⟨_,rfl⟩
  refine sS (.bool b1) (Quiet.pure (exec_int .lss _ _ _ .i64 _ _ _ rfl rfl rfl (int_lss _ _ _ _ _ (by rw [hb1]; exact decide_eq_decide.2 (by omega))))) ?_
  refine sG ?_
  cases b1
  ·have lb1:¬ ((f+k1)<(f+M)):=of_decide_eq_false hb1.symm
   refine sU<|Sy.exit<|Sy.then_exit<|Sy.then_exit ?_
   obtain rfl:M=k1:=by omega
   refine Sy.in_exit<|sB ?_
   refine sP (.slice A n c)<|sP (.slice A n c) ?_
   refine sG<|Sy.ret ?_
   exact retG0 rfl (v:=.slice A n c) (.inl (show _=_ by kernel_rfl)) (.inl ⟨hk0,rfl,rfl⟩)
  ·have lb1:(f+k1)<(f+M):=of_decide_eq_true hb1.symm
   refine sT<|Sy.skip<|Sy.then_<|Sy.seq<|Sy.block ?_
   refine Sy.regionD (λj=>false) kR ?_
   refine sZ 0 rfl (.slice W NW cW)<|sZ 1 rfl (.int .i64 (((f+k1):Nat):Int))<|sD 2 rfl (.pointer (some ⟨gW,oW+(f+k1)*4,none⟩)) (Quiet.pure (exec_atO 51 _ _ _ W gW oW NW cW (f+k1) 4 .i64 (hW (by omega)).1 rfl rfl rfl Tryz.underlying51 kF (by omega)))<|sD 3 rfl (fv (s ((f+k1)))) (Quiet.there gW (oW+(f+k1)*4) 4 42 (fws (s ((f+k1)))) _ _ rfl kR (hW (by omega)).2.1 ((hW (by omega)).2.2 (f+k1) (by omega)) Tryz.underlying42 rfl kR rfl _ rfl)<|sD 4 rfl (bndv R NR cR bm) (Quiet.load 0 g0 0 33 86 86 (bndc R NR cR bm).toArray _ _ rfl kR kR Tryz.underlying86 rfl kR _ (bnd_whole hbm) (bnd_size hbm))<|sZ 5 rfl (.slice A n c)<|sZ 6 rfl (.int .i64 ((i:Nat):Int))<|sZ 7 rfl (.int .i64 (((f+k1):Nat):Int)) ?_
   refine sD 8 rfl (fv (rgC bm xk i (f+k1))) (Quiet.callS 113 #[bndv R NR cR bm,.slice A n c,.int .i64 ((i:Nat):Int),.int .i64 (((f+k1):Nat):Int)] kF (λw hw=>by rw [exk]; exact chalG_any w R NR cR bm hbm A x n c hx hm hc hc2 (hs0.below hw.below) i (f+k1) (by omega) (by omega) (ht.below hw.below ht.lt)))<|sZ 9 rfl (.pointer (some ⟨g0,0,none⟩))<|sD 10 rfl (.slice R NR cR) (Quiet.cell 0 g0 0 86 25 (bndc R NR cR bm).toArray _ _ rfl kR kR Tryz.underlying25 rfl _ kR)<|sZ 11 rfl (.int .i64 ((i:Nat):Int))<|sD 12 rfl (.pointer (some ⟨gR,oR+i*1,none⟩)) (Quiet.pure (exec_atO 25 _ _ _ R gR oR NR cR i 1 .i64 (hR (by omega)).1 rfl rfl rfl Tryz.underlying25 kF (by omega)))<|sD 13 rfl (.slice (a i) (nk i) (ck i)) (Quiet.thereOne gR (oR+i*1) 45 _ _ rfl kR (hR (by omega)).2.1 _ (range_one ((hR (by omega)).2.2 i (by omega)) 0 rfl) Tryz.underlying45 rfl)<|sZ 14 rfl (.int .i64 (((f+k1):Nat):Int))<|sD 15 rfl (.pointer (some ⟨gK,oK+(f+k1)*9,none⟩)) (Quiet.pure (exec_atO 45 _ _ _ (a i) gK oK (nk i) (ck i) (f+k1) 9 .i64 (hT (by omega)).1 rfl rfl rfl Tryz.underlying45 kF (by omega))) ?_
   refine sD 16 rfl (pv (X i (f+k1)) (Y i (f+k1)) (I i (f+k1))) (Quiet.there gK (oK+(f+k1)*9) 9 48 (pml (X i (f+k1)) (Y i (f+k1)) (I i (f+k1))) _ _ rfl kR (hT (by omega)).2.1 ((hT (by omega)).2.2 (f+k1) (by omega)) Tryz.underlying48 rfl kR rfl _ rfl) ?_
   refine Sy.callND 17 rfl kR kR 117 #[fv (s ((f+k1))),fv (rgC bm xk i (f+k1)),pv (X i (f+k1)) (Y i (f+k1)) (I i (f+k1))] kF ((CodeIs (rPt (s (f+k1)) (rgC bm xk i (f+k1)) (X i (f+k1)) (Y i (f+k1)) (I i (f+k1))))) (λw hw=>answer_any w _ _ _ _ _ (hsc _) (rgC_lt _ _ _ _) (hX _ _) (hY _ _)) (λvq Mq hR0=>?_)
   obtain ⟨q7,rfl,rfl⟩:=hR0
   refine sZ 18 rfl (.slice (some ⟨q7,0,none⟩) 33 33) ?_
   refine sE ?_
   refine Sy.in_<|Sy.then_<|Sy.region ?_
   refine sP (.int .i64 (((f+k1):Nat):Int))<|sS (.int .i64 (((f+k1)+1:Nat):Int)) (Quiet.pure (exec_int .add _ _ _ .i64 _ _ _ rfl rfl rfl (int_add _ _ _ _ _ ((wrap_i64 (by omega) (by omega)).trans (by omega)))))<|sP (.int .i64 (((f+k1)+1:Nat):Int)) ?_
   refine Sy.nil ?_
   exact Sy.againT (.slice (some ⟨q7,0,none⟩) 33 33,[(q7,191,((encS (rPt (s (f+k1)) (rgC bm xk i (f+k1)) (X i (f+k1)) (Y i (f+k1)) (I i (f+k1)))).map bv).toArray)]) (by omega) (.inr ⟨Nat.succ_pos _,q7,by subst hxk; rfl⟩) (all_cons kR (all_cons kR (all_cons kR (all_cons kR (all_cons kR (all_cons kR all_nil)))))) (λw hw=>hw)
 ·have hxl:xk.length=33:=by rw [hxk]; exact alX_len hk0
  refine Sy.seq<|sC ?_
  refine sP (.int .i64 (((f+k1):Nat):Int))<|sP (.int .i64 (((f+M):Nat):Int)) ?_
  obtain ⟨b2,hb2⟩:∃ z:Bool,z=decide ((f+k1)<(f+M)):=⟨_,rfl⟩
  refine sS (.bool b2) (Quiet.pure (exec_int .lss _ _ _ .i64 _ _ _ rfl rfl rfl (int_lss _ _ _ _ _ (by rw [hb2]; exact decide_eq_decide.2 (by omega))))) ?_
  refine sG ?_
  cases b2
  ·have lb2:¬ ((f+k1)<(f+M)):=of_decide_eq_false hb2.symm
   refine sU<|Sy.exit<|Sy.then_exit<|Sy.then_exit ?_
   obtain rfl:M=k1:=by omega
   refine Sy.in_exit<|sB ?_
   refine sP (.slice (some ⟨q0,0,none⟩) 33 33)<|sP (.slice (some ⟨q0,0,none⟩) 33 33) ?_
   refine sG<|Sy.ret ?_
   exact retG 1 (q0,191,(xk.map bv).toArray) rfl (v:=.slice (some ⟨q0,0,none⟩) 33 33) (.inl (show _=_ by kernel_rfl)) kR (.inr ⟨hk0,_,by subst hxk; rfl,by subst hxk; rfl⟩)
  ·have lb2:(f+k1)<(f+M):=of_decide_eq_true hb2.symm
   refine sT<|Sy.skip<|Sy.then_<|Sy.seq<|Sy.block ?_
   refine Sy.regionD (λj=>false) kR ?_
   refine sZ 0 rfl (.slice W NW cW)<|sZ 1 rfl (.int .i64 (((f+k1):Nat):Int))<|sD 2 rfl (.pointer (some ⟨gW,oW+(f+k1)*4,none⟩)) (Quiet.pure (exec_atO 51 _ _ _ W gW oW NW cW (f+k1) 4 .i64 (hW (by omega)).1 rfl rfl rfl Tryz.underlying51 kF (by omega)))<|sD 3 rfl (fv (s ((f+k1)))) (Quiet.there gW (oW+(f+k1)*4) 4 42 (fws (s ((f+k1)))) _ _ rfl kR (hW (by omega)).2.1 ((hW (by omega)).2.2 (f+k1) (by omega)) Tryz.underlying42 rfl kR rfl _ rfl)<|sD 4 rfl (bndv R NR cR bm) (Quiet.load 0 g0 0 33 86 86 (bndc R NR cR bm).toArray _ _ rfl kR kR Tryz.underlying86 rfl kR _ (bnd_whole hbm) (bnd_size hbm))<|sZ 5 rfl (.slice (some ⟨q0,0,none⟩) 33 33)<|sZ 6 rfl (.int .i64 ((i:Nat):Int))<|sZ 7 rfl (.int .i64 (((f+k1):Nat):Int)) ?_
   refine sD 8 rfl (fv (rgC bm xk i (f+k1))) (Quiet.callS 113 #[bndv R NR cR bm,.slice (some ⟨q0,0,none⟩) 33 33,.int .i64 ((i:Nat):Int),.int .i64 (((f+k1):Nat):Int)] kF (λw hw=>chalG_any w R NR cR bm hbm (some ⟨q0,0,none⟩) xk 33 33 hxl (by decide) (by decide) (by decide) (Sh.Src.of_blk (hw.get (i:=1) rfl)) i (f+k1) (by omega) (by omega) (ht.below hw.below ht.lt)))<|sZ 9 rfl (.pointer (some ⟨g0,0,none⟩))<|sD 10 rfl (.slice R NR cR) (Quiet.cell 0 g0 0 86 25 (bndc R NR cR bm).toArray _ _ rfl kR kR Tryz.underlying25 rfl _ kR)<|sZ 11 rfl (.int .i64 ((i:Nat):Int))<|sD 12 rfl (.pointer (some ⟨gR,oR+i*1,none⟩)) (Quiet.pure (exec_atO 25 _ _ _ R gR oR NR cR i 1 .i64 (hR (by omega)).1 rfl rfl rfl Tryz.underlying25 kF (by omega)))<|sD 13 rfl (.slice (a i) (nk i) (ck i)) (Quiet.thereOne gR (oR+i*1) 45 _ _ rfl kR (hR (by omega)).2.1 _ (range_one ((hR (by omega)).2.2 i (by omega)) 0 rfl) Tryz.underlying45 rfl)<|sZ 14 rfl (.int .i64 (((f+k1):Nat):Int))<|sD 15 rfl (.pointer (some ⟨gK,oK+(f+k1)*9,none⟩)) (Quiet.pure (exec_atO 45 _ _ _ (a i) gK oK (nk i) (ck i) (f+k1) 9 .i64 (hT (by omega)).1 rfl rfl rfl Tryz.underlying45 kF (by omega))) ?_
   refine sD 16 rfl (pv (X i (f+k1)) (Y i (f+k1)) (I i (f+k1))) (Quiet.there gK (oK+(f+k1)*9) 9 48 (pml (X i (f+k1)) (Y i (f+k1)) (I i (f+k1))) _ _ rfl kR (hT (by omega)).2.1 ((hT (by omega)).2.2 (f+k1) (by omega)) Tryz.underlying48 rfl kR rfl _ rfl) ?_
   refine Sy.callND 17 rfl kR kR 117 #[fv (s ((f+k1))),fv (rgC bm xk i (f+k1)),pv (X i (f+k1)) (Y i (f+k1)) (I i (f+k1))] kF ((CodeIs (rPt (s (f+k1)) (rgC bm xk i (f+k1)) (X i (f+k1)) (Y i (f+k1)) (I i (f+k1))))) (λw hw=>answer_any w _ _ _ _ _ (hsc _) (rgC_lt _ _ _ _) (hX _ _) (hY _ _)) (λvq Mq hR0=>?_)
   obtain ⟨q7,rfl,rfl⟩:=hR0
   refine sZ 18 rfl (.slice (some ⟨q7,0,none⟩) 33 33) ?_
   refine sE ?_
   refine Sy.in_<|Sy.then_<|Sy.region ?_
   refine sP (.int .i64 (((f+k1):Nat):Int))<|sS (.int .i64 (((f+k1)+1:Nat):Int)) (Quiet.pure (exec_int .add _ _ _ .i64 _ _ _ rfl rfl rfl (int_add _ _ _ _ _ ((wrap_i64 (by omega) (by omega)).trans (by omega)))))<|sP (.int .i64 (((f+k1)+1:Nat):Int)) ?_
   refine Sy.nil ?_
   exact Sy.againT (.slice (some ⟨q7,0,none⟩) 33 33,[(q7,191,((encS (rPt (s (f+k1)) (rgC bm xk i (f+k1)) (X i (f+k1)) (Y i (f+k1)) (I i (f+k1)))).map bv).toArray)]) (by omega) (.inr ⟨Nat.succ_pos _,q7,by subst hxk; rfl⟩) (all_cons kR (all_cons kR (all_cons kR (all_cons kR (all_cons kR (all_cons kR all_nil)))))) (λw hw=>(St.pick (T:=[]) (pre:=[(g0,86,(bndc R NR cR bm).toArray),(q0,191,(xk.map bv).toArray),(q7,191,((encS (rPt (s (f+k1)) (rgC bm xk i (f+k1)) (X i (f+k1)) (Y i (f+k1)) (I i (f+k1)))).map bv).toArray)]) (M:=[(g0,86,(bndc R NR cR bm).toArray),(q7,191,((encS (rPt (s (f+k1)) (rgC bm xk i (f+k1)) (X i (f+k1)) (Y i (f+k1)) (I i (f+k1)))).map bv).toArray)]) [0,2] (by decide) kR hw))
end Cu
end
section
namespace Cu
open Go.RowKit Sy
def rgT (bm l:List UInt8):List UInt8:=Sh.taggedS rgFirst.data.toList (bm++l)
theorem rgT_len (bm l:List UInt8):(rgT bm l).length=32:=tagS_length _ _
theorem catG2_c {w:World} {g3 g2:Nat} {t3 t2:TypeId} {x:Sh.Tx} {xv:Value} {E:Option Addr} {NE cE:Nat} {ts:List Sh.Tx} (hx:x.val=xv) (h3:Blk w g3 t3 #[.slice (some ⟨g2,0,none⟩) 1 1,.slice E NE cE]) (h2:Blk w g2 t2 #[xv]) (hT:Sh.Texts w E ts) (hn:ts.length=NE) (hc:NE≤cE) (hN:NE≤100000) :
  Calls Tryz.prog 172 #[.slice (some ⟨g3,0,none⟩) 2 2] w (GetsN w (GivesRow 24 1 ((x::ts).map λt=>[t.val]))):=by
 subst hn
 have q:=concatB_any w (some ⟨g3,0,none⟩) 2 2 (λi=>if i=0 then some ⟨g2,0,none⟩ else E) (λi=>if i=0 then 1 else ts.length) (λi=>if i=0 then 1 else cE) (λi k=>if i=0 then [xv] else [(ts.getD k x).val]) (λi k=>by split <;> rfl) (λi k u hu=>by
  skip
  split at hu
  ·rw [List.mem_singleton.1 hu, ← hx]; rfl
  ·rw [List.mem_singleton.1 hu]; rfl) (by decide) (by simp [sumN]; omega) (λi hi=>by split <;> omega)
  ⟨g3,0,λ_=>⟨rfl,h3.lt,λj hj=>by
   match j,hj with
   | 0,_=>exact blk_range h3 rfl
   | 1,_=>exact blk_range h3 rfl⟩⟩
  (λi hi=>by
   match i,hi with
   | 0,_=>exact ⟨g2,0,λ_=>⟨rfl,h2.lt,λj hj=>by
     obtain rfl:j=0:=by simpa using hj
     exact blk_range h2 rfl⟩⟩
   | 1,_ =>
    by_cases h0:ts=[]
    ·subst h0
     exact ⟨0,0,λh=>absurd h (by simp)⟩
    ·obtain ⟨b,o,e,hlt,hc⟩:=hT h0
     refine ⟨b,o,λ_=>⟨e,hlt,λj hj=>?_⟩⟩
     have hj':j<ts.length:=by simpa using hj
     intro k v hk
     cases k with
     | succ k=>simp at hk
     | zero =>
      have hv:(ts.getD j x).val=v:=by simpa using hk
      rw [← hv,Nat.mul_one,Nat.add_zero]
      exact (hc j _ (by rw [List.getD_eq_getElem?_getD,List.getElem?_eq_getElem hj']; rfl)).1)
 have e:catR (λi=>if i=0 then 1 else ts.length) (λi k=>if i=0 then [xv] else [(ts.getD k x).val]) 2=(x::ts).map λt=>[t.val]:=by
  show ([]++[[xv]])++(List.range ts.length).map (λk=>[(ts.getD k x).val])=_
  rw [List.map_cons,hx,List.nil_append,List.singleton_append]
  refine congrArg _ (List.ext_getElem (by simp) λi h1 h2=>?_)
  have h3:i<ts.length:=by simpa using h1
  rw [List.getElem_map,List.getElem_map,List.getElem_range,List.getD_eq_getElem?_getD,List.getElem?_eq_getElem h3]
  rfl
 rw [e] at q
 exact q
set_option maxHeartbeats 4000000 in
set_option maxRecDepth 100000 in
theorem firstG_any (w:World) (R:Option Addr) (NR cR:Nat) (bm:List UInt8) (hbm:bm.length=32) (E:Option Addr) (NE cE:Nat) (ts:List Sh.Tx) (hT:Sh.Texts w E ts) (hok:∀ t∈ts,t.ok w) (hn:ts.length=NE) (hc:NE≤cE) (hN:NE≤100000) (hl9:(Sh.cat ts).length≤999999000) (ht:Sh.TabAt w 1):Calls Tryz.prog 112 #[bndv R NR cR bm,.slice E NE cE] w (Gets w (.agg ((rgT bm (Sh.cat ts)).map bv).toArray)):=by
 refine Sy.enter (args:=[bndv R NR cR bm,.slice E NE cE]) Tryz.func112 rfl kL ?_
 refine sC ?_
 refine sM 86 (bndc R NR cR bm).toArray (λg0=>?_)
 refine sM 23 (Zl 32).toArray (λg1=>?_)
 refine sA ?_
 refine sP (.pointer (some ⟨g0,1,none⟩))<|sP (.slice (some ⟨g0,1,none⟩) 32 32) ?_
 refine Sy.make kR 24 #[.slice (some ⟨g0,1,none⟩) 32 32] (λg=>.slice (some ⟨g,0,none⟩) 1 1) kF (λg2=>?_)
 refine sP (.slice E NE cE) ?_
 refine Sy.make kR 95 #[.slice (some ⟨g2,0,none⟩) 1 1,.slice E NE cE] (λg=>.slice (some ⟨g,0,none⟩) 2 2) kF (λg3=>?_)
 refine Sy.callN kR 172 #[.slice (some ⟨g3,0,none⟩) 2 2] kF (GivesRow 24 1 (((⟨some ⟨g0,1,none⟩,bm,32⟩:Sh.Tx)::ts).map λt=>[t.val])) (λw hw=>catG2_c (by unfold Sh.Tx.val; rw [hbm]) (hw.get (i:=3) rfl) (hw.get (i:=2) rfl) (hT.below hw.below) hn hc hN) (λvq Mq hR0=>?_)
 obtain ⟨y0,hy0,rfl,rfl⟩:=hR0
 obtain ⟨d0,hd0⟩:∃ l,l=rgT bm (Sh.cat ts):=⟨_,rfl⟩
 have hd1:d0.length=32:=by rw [hd0]; exact rgT_len _ _
 have hx:TxsIs (Base.of w) 24 y0 [(g0,86,(bndc R NR cR bm).toArray)] ((⟨some ⟨g0,1,none⟩,bm,32⟩:Sh.Tx)::ts):=⟨hy0,λv L hv hb t ht=>by
  rcases List.mem_cons.1 ht with rfl | ht
  ·exact ⟨src_tail (v:=.slice R NR cR) (hv.blk _ _ _ (hb _ (List.mem_singleton.2 rfl))).2,by show bm.length≤32; omega,by show 32≤9223372036854775807; decide⟩
  ·exact (hok t ht).below hv.below⟩
 refine sS (.agg (d0.map bv).toArray) (qG 106 #[.string rgFirst,y0.v] (λw hw=>by obtain ⟨Q,d,hv,_,_,htx⟩:=hx.texts; rw [hv,hd0]; have q:=Sh.tagged_any w rgFirst Q _ d (htx hw (λb hb=>List.mem_append.2 (.inr hb)) (λb hb=>List.mem_append.2 (.inl (by rw [List.mem_singleton.1 hb]; exact List.mem_of_getElem? (i:=0) rfl)))) (ht.below hw.below ht.lt) (by decide) (by show (bm++Sh.cat ts).length≤_; rw [List.length_append]; omega) (by rw [List.length_cons]; omega); exact q))<|sW 1 g1 23 (Zl 32).toArray (d0.map bv).toArray (Writes.store 0 23 (d0.map bv).toArray _ _ rfl kR kR (by rw [key_sz d0 hd1]; kernel_rfl) (by rw [key_sz d0 hd1]; exact Nat.le_of_ble_eq_true kR) (key_one _) (key_set _ _ (by rw [hd1]; kernel_rfl))) ?_
 refine Sy.setT ?_
 refine sG<|Sy.ret ?_
 rw [show (.agg ((rgT bm (Sh.cat ts)).map bv).toArray:Value)=.agg (d0.map bv).toArray from by rw [← hd0]]
 exact Sy.ret1 (v:=.agg (d0.map bv).toArray) rfl (.inl (Res.cell (ty':=23) g1 1 (d0.map bv).toArray _ kR kR Tryz.underlying23 rfl (by rw [key_sz d0 hd1]; kernel_rfl) kR))
end Cu
end
section
namespace Cu
open Go.RowKit Sy
noncomputable def infSc:TypeInfo:=(Tryz.prog.info? 42).getD default
theorem info_sc:Tryz.prog.info? 42=some infSc:=by kernel_rfl
noncomputable def infScs:TypeInfo:=(Tryz.prog.info? 51).getD default
theorem info_scs:Tryz.prog.info? 51=some infScs:=by kernel_rfl
theorem fws_one (k:Nat):∀ u∈fws k,u.oneCell'=true:=all_one _ kR
def fkF (bm sd:List UInt8) (i j:Nat):List Value:=fws (rgF bm sd i j)
set_option maxHeartbeats 4000000 in
set_option maxRecDepth 100000 in
theorem fakesG_any (w:World) (R:Option Addr) (NR cR:Nat) (a:Nat→Option Addr) (nk ck:Nat→Nat) (X Y:Nat→Nat→Nat) (I:Nat→Nat→Bool) (hX:∀ i k,X i k<K4) (hY:∀ i k,Y i k<K4) (hNR:NR≤4611686018427387904) (hnk:∀ i,nk i≤4611686018427387904) (hlr:Lst w 1 R NR (λi=>[.slice (a i) (nk i) (ck i)])) (hlk:∀ i,i<NR→Lst w 9 (a i) (nk i) (λk=>pml (X i k) (Y i k) (I i k))) (hN32:NR≤32) (hn64:∀ i,i<NR→nk i≤64) (bm:List UInt8) (hbm:bm.length=32) (sd:List UInt8) (hsd:sd.length=32) (ht:Sh.TabAt w 1):Calls Tryz.prog 107 #[bndv R NR cR bm,.agg (sd.map bv).toArray] w (GetsN w (GivesRows 51 42 4 (fkF bm sd) (cntR nk NR 0) NR)):=by
 have hlr0:=hlr
 obtain ⟨gR,oR,hR⟩:=hlr
 refine Sy.enter (args:=[bndv R NR cR bm,.agg (sd.map bv).toArray]) Tryz.func107 rfl kL ?_
 refine sC ?_
 refine sM 86 (bndc R NR cR bm).toArray (λg0=>?_)
 refine sM 23 (sd.map bv).toArray (λg1=>?_)
 refine sP (.slice none 0 0) ?_
 refine sA ?_
 refine sP (.pointer (some ⟨g0,0,none⟩))<|sS (.slice R NR cR) (Quiet.cell 0 g0 0 86 25 (bndc R NR cR bm).toArray _ _ rfl kR kR Tryz.underlying25 rfl _ kR)<|sP (.int .i64 ((NR:Nat):Int)) ?_
 refine Sy.make kR 51 (flat (λ_=>[.slice none 0 0]) NR).toArray (λg=>.slice (some ⟨g,0,none⟩) NR NR) (Makes.slice 29 51 _ (.slice none 0 0) 1 24 _ _ .i64 .i64 NR [.slice none 0 0] rfl rfl rfl Tryz.underlying29 info_scs kR kR (by decide) kR kR kR (by omega) (by omega)) (λg2=>?_)
 refine sP (.slice (some ⟨g2,0,none⟩) NR NR) ?_
 refine sG<|Sy.seq<|sC ?_
 refine sP (.pointer (some ⟨g0,0,none⟩))<|sS (.slice R NR cR) (Quiet.cell 0 g0 0 86 25 (bndc R NR cR bm).toArray _ _ rfl kR kR Tryz.underlying25 rfl _ kR)<|sP (.int .i64 ((NR:Nat):Int))<|sP (.int .i64 0) ?_
 refine sG<|Sy.block ?_
 refine Sy.loopT (Y:=Nat→Slc) NR (λk1 y1=>[(2,.pointer (some ⟨g0,0,none⟩)),(3,.pointer (some ⟨g1,0,none⟩)),(5,.slice (some ⟨g2,0,none⟩) NR NR),(14,.slice R NR cR),(15,.int .i64 ((NR:Nat):Int)),(16,.int .i64 ((k1:Nat):Int))]) (λk1 y1=>[(g0,86,(bndc R NR cR bm).toArray),(g1,23,(sd.map bv).toArray),(g2,51,(rowsC y1 NR))]++(rowsB y1 NR++[])) (λk1 y1=>RowsAre y1 42 4 (fkF bm sd) (cntR nk k1 0)) (λ_=>nilS) ((RowsAre.nil _ _ _).cnt (cntR_zero nk)) (all_cons kR (all_cons kR (all_cons kR (all_cons kR (all_cons kR (all_cons kR all_nil)))))) (λw hw=>by rw [rowsB_nil]; exact hw) (λk1 y1 hk1 hh1=>?_)
 refine sC ?_
 obtain ⟨b1,hb1⟩:∃ z:Bool,z=decide (k1<NR):=⟨_,rfl⟩
 refine sS (.bool b1) (Quiet.pure (exec_int .lss _ _ _ .i64 _ _ _ rfl rfl rfl (int_lss _ _ _ _ _ (by rw [hb1]; exact decide_eq_decide.2 (by omega))))) ?_
 refine sG<|Sy.seq ?_
 cases b1
 ·have lb1:¬ (k1<NR):=of_decide_eq_false hb1.symm
  refine sU<|Sy.exit<|Sy.then_exit<|Sy.then_exit ?_
  obtain rfl:NR=k1:=by omega
  refine Sy.in_exit<|sB ?_
  refine sP (.slice (some ⟨g2,0,none⟩) NR NR)<|sP (.slice (some ⟨g2,0,none⟩) NR NR) ?_
  refine sG<|Sy.ret ?_
  exact retGM ((g2,51,rowsC y1 NR)::rowsB y1 NR) rfl (v:=.slice (some ⟨g2,0,none⟩) NR NR) (.inl (show _=_ by kernel_rfl)) (λw hw=>by simpa using St.pick (pre:=[(g0,86,(bndc R NR cR bm).toArray),(g1,23,(sd.map bv).toArray),(g2,51,(rowsC y1 NR))]) (M:=[(g2,51,rowsC y1 NR)]) [2] (by decide) kR hw) ⟨_,y1,rfl,rfl,hh1⟩
 ·have lb1:k1<NR:=of_decide_eq_true hb1.symm
  have hnk1:=hn64 k1 lb1
  refine sT<|Sy.skip<|Sy.then_<|Sy.seq<|Sy.block<|sC ?_
  refine sP (.int .i64 ((k1:Nat):Int))<|sS (.pointer (some ⟨gR,oR+k1*1,none⟩)) (Quiet.pure (exec_atO 25 _ _ _ R gR oR NR cR k1 1 .i64 (hR (by omega)).1 rfl rfl rfl Tryz.underlying25 kF (by omega)))<|sS (.slice (a k1) (nk k1) (ck k1)) (Quiet.thereOne gR (oR+k1*1) 45 _ _ rfl kR (hR (by omega)).2.1 _ (range_one ((hR (by omega)).2.2 k1 (by omega)) 0 rfl) Tryz.underlying45 rfl)<|sP (.int .i64 ((k1:Nat):Int))<|sP (.slice (a k1) (nk k1) (ck k1)) ?_
  refine sA ?_
  refine sP (.slice (a k1) (nk k1) (ck k1))<|sP (.int .i64 (((nk k1):Nat):Int))<|sP (.int .i64 0) ?_
  refine sG<|Sy.block ?_
  refine Sy.loopT (Y:=Nat→Slc) (nk k1) (λk2 y2=>[(2,.pointer (some ⟨g0,0,none⟩)),(3,.pointer (some ⟨g1,0,none⟩)),(5,.slice (some ⟨g2,0,none⟩) NR NR),(6,.int .i64 ((k1:Nat):Int)),(7,.slice (a k1) (nk k1) (ck k1)),(14,.slice R NR cR),(15,.int .i64 ((NR:Nat):Int)),(16,.int .i64 ((k1:Nat):Int)),(21,.slice (a k1) (nk k1) (ck k1)),(22,.int .i64 (((nk k1):Nat):Int)),(23,.int .i64 ((k2:Nat):Int))]) (λk2 y2=>[(g0,86,(bndc R NR cR bm).toArray),(g1,23,(sd.map bv).toArray),(g2,51,(rowsC y2 NR))]++(rowsB y2 NR++[])) (λk2 y2=>RowsAre y2 42 4 (fkF bm sd) (cntR nk k1 k2)) y1 hh1 (all_cons kR (all_cons kR (all_cons kR (all_cons kR (all_cons kR (all_cons kR (all_cons kR (all_cons kR (all_cons kR (all_cons kR (all_cons kR all_nil))))))))))) (λw hw=>hw) (λk2 y2 hk2 hh2=>?_)
  refine sC ?_
  obtain ⟨b2,hb2⟩:∃ z:Bool,z=decide (k2<(nk k1)):=⟨_,rfl⟩
  refine sS (.bool b2) (Quiet.pure (exec_int .lss _ _ _ .i64 _ _ _ rfl rfl rfl (int_lss _ _ _ _ _ (by rw [hb2]; exact decide_eq_decide.2 (by omega))))) ?_
  refine sG<|Sy.seq ?_
  cases b2
  ·have lb2:¬ (k2<(nk k1)):=of_decide_eq_false hb2.symm
   refine sU<|Sy.exit<|Sy.then_exit<|Sy.then_exit ?_
   obtain rfl:k2=nk k1:=by omega
   refine Sy.in_exit<|Sy.in_<|Sy.then_<|Sy.region ?_
   refine sS (.int .i64 ((k1+1:Nat):Int)) (Quiet.pure (exec_int .add _ _ _ .i64 _ _ _ rfl rfl rfl (int_add _ _ _ _ _ ((wrap_i64 (by omega) (by omega)).trans (by omega)))))<|sP (.int .i64 ((k1+1:Nat):Int)) ?_
   refine Sy.nil ?_
   exact Sy.againT (y2) (by omega) (hh2.cnt (cntR_next nk k1)) (all_cons kR (all_cons kR (all_cons kR (all_cons kR (all_cons kR (all_cons kR all_nil)))))) (λw hw=>hw)
  ·have lb2:k2<(nk k1):=of_decide_eq_true hb2.symm
   refine sT<|Sy.skip<|Sy.then_<|Sy.seq<|Sy.block<|sC ?_
   refine sP (.int .i64 ((k2:Nat):Int))<|sP (.int .i64 ((k2:Nat):Int)) ?_
   refine sG ?_
   refine Sy.regionD (λj=>j == 12 || j == 14) kR ?_
   refine Sy.stepDA 0 rfl kR (λ_ _ _ _ h=>h) kR (.slice (some ⟨g2,0,none⟩) NR NR) kF ?_
   refine Sy.stepDA 1 rfl kR (λ_ _ _ _ h=>h) kR (.int .i64 ((k1:Nat):Int)) kF ?_
   refine Sy.stepDB 2 [4,5,12,13,14] rfl kR (λ_ _ _ _ h=>h) kR (.slice (some ⟨g2,0,none⟩) NR NR) qP ?_
   refine Sy.stepDB 3 [4,5,12,13,14] rfl kR (λ_ _ _ _ h=>h) kR (.int .i64 ((k1:Nat):Int)) qP ?_
   refine Sy.stepDB 4 [5,12,13,14] rfl kR (λ_ _ _ _ h=>h) kR (.pointer (some ⟨g2,0+k1*1,none⟩)) (Quiet.pure (exec_at 29 _ _ _ g2 0 NR NR k1 1 .i64 rfl rfl rfl Tryz.underlying29 kF (by omega))) ?_
   refine sD 5 rfl ((y2 k1).v) (Quiet.cell 2 g2 (0+k1*1) 51 51 (rowsC y2 NR) _ _ rfl kR kR Tryz.underlying51 rfl _ (rowsC_get (by omega) rfl)) ?_
   refine Sy.stepDB 6 [10,11,12,13,14] rfl kR (λ_ _ _ _ h=>h) kR (bndv R NR cR bm) (Quiet.load 0 g0 0 33 86 86 (bndc R NR cR bm).toArray _ _ rfl kR kR Tryz.underlying86 rfl kR _ (bnd_whole hbm) (bnd_size hbm)) ?_
   refine Sy.stepDB 7 [10,11,12,13,14] rfl kR (λ_ _ _ _ h=>h) kR (.agg (sd.map bv).toArray) (Quiet.load 1 g1 0 32 23 23 (sd.map bv).toArray _ _ rfl kR kR Tryz.underlying23 rfl kR _ (key_whole sd hsd) (key_size sd hsd)) ?_
   refine Sy.stepDB 8 [10,11,12,13,14] rfl kR (λ_ _ _ _ h=>h) kR (.int .i64 ((k1:Nat):Int)) qP ?_
   refine Sy.stepDB 9 [10,11,12,13,14] rfl kR (λ_ _ _ _ h=>h) kR (.int .i64 ((k2:Nat):Int)) qP ?_
   refine sD 10 rfl (fv (rgF bm sd k1 k2)) (Quiet.callS 171 #[bndv R NR cR bm,.agg (sd.map bv).toArray,.int .i64 ((k1:Nat):Int),.int .i64 ((k2:Nat):Int)] kF (λw hw=>fakeG_any w R NR cR bm hbm sd hsd k1 k2 (by omega) (by omega) (ht.below hw.below ht.lt))) ?_
   refine Sy.makeD 11 rfl kR kR 42 (fcs (rgF bm sd k1 k2)) (λg=>.slice (some ⟨g,0,none⟩) 1 1) kF (λg3=>?_)
   refine Sy.movTD ?_
   refine Sy.soleD 12 rfl (λQ1 hq1=>?_)
   refine Sy.permS (Sy.out_perm y2 (i:=k1) (by omega)) ?_
   refine Sy.appendR kR 51 42 _ _ 4 32 Tryz.underlying51 info_sc rfl rfl rfl rfl (by decide) _ _ rfl (hh2 k1) kR (fws (rgF bm sd k1 k2)) rfl (fws_one _) 3 g3 42 kR kR (by rw [List.length_map,List.length_range,cntR_at]; omega) (by rw [List.length_map,List.length_range,cntR_at]; simp only [maxLen]; omega) (λr1 hr1=>?_)
   refine hq1 _ _ ?_
   refine Sy.anyOf [13] kR (by decide) (Sy.each1 ?_)
   refine Sy.oneQuiet rfl kR (.pointer (some ⟨g2,0+k1*1,none⟩)) (Quiet.pure (exec_at 29 _ _ _ g2 0 NR NR k1 1 .i64 rfl rfl rfl Tryz.underlying29 kF (by omega))) ?_
   refine Sy.writeD 14 rfl kR (by rfl) kR 2 g2 51 (rowsC y2 NR) (rowsC (putR y2 k1 r1) NR) kR (Writes.one (0+k1*1) 51 (r1.v) _ _ rfl kR kR kR hr1.cells.1 hr1.cells.2 (rowsC_lt (by omega) rfl) (rowsC_set (by omega) rfl rfl)) ?_
   refine Sy.setTD ?_
   refine Sy.permD (Sy.in_perm (by omega)) ?_
   refine sE ?_
   refine Sy.in_<|Sy.then_<|Sy.region ?_
   refine sS (.int .i64 ((k2+1:Nat):Int)) (Quiet.pure (exec_int .add _ _ _ .i64 _ _ _ rfl rfl rfl (int_add _ _ _ _ _ ((wrap_i64 (by omega) (by omega)).trans (by omega)))))<|sP (.int .i64 ((k2+1:Nat):Int)) ?_
   refine Sy.nil ?_
   exact Sy.againT (putR y2 k1 r1) (by omega) (hh2.put' hr1 rfl) (all_cons kR (all_cons kR (all_cons kR (all_cons kR (all_cons kR (all_cons kR (all_cons kR (all_cons kR (all_cons kR (all_cons kR (all_cons kR all_nil))))))))))) (λw hw=>St.pick (pre:=[(g0,86,(bndc R NR cR bm).toArray),(g1,23,(sd.map bv).toArray),(g2,51,(rowsC (putR y2 k1 r1) NR)),(g3,42,(fcs (rgF bm sd k1 k2)))]) (M:=[(g0,86,(bndc R NR cR bm).toArray),(g1,23,(sd.map bv).toArray),(g2,51,(rowsC (putR y2 k1 r1) NR))]) [0,1,2] (by decide) kR hw)
end Cu
end
section
namespace Sy
open Go.RowKit
section
variable {P:Program} {w0:Base} {n:Nat} {Q:Exit→Act→World→Prop} {F:Slots} {L:Blocks}
theorem scope {c:Code} (h:wpC P w0 n (Exit.noGoto Q) F L c) (hf:w0.fence=Fence.wide:=by rfl):wpC P w0 n Q F L (.scope c):=λa w ha hw=>by
 have q:=h a w ha hw
 rw [hf] at q ⊢
 exact wpIn_wide.2 (wp_scope_straight (wpIn_wide.1 q))
theorem sc_r (h:X w0 n Q F L .ret):X w0 n (Exit.noGoto Q) F L .ret:=h
theorem label {i:Nat} (h:X w0 n Q F L .normal):wpC P w0 n Q F L (.label i):=λa w ha hw=>wpIn_label (h a w ha hw)
theorem retGM2 {w1:World} {fn:Func} {r s:ResultVar} {v u:Value} {R:Value→Blocks→Prop} (M:Blocks) (hr:fn.results=#[r,s]) (h:Has P F L r v) (k:Has P F L s u) (hM:∀ w,St (Base.of w1) w L→St (Base.of w1) w M) (hR:R (.tuple #[v,u]) M):X (Base.of w1) n (bodyPost P fn (GetsN w1 R)) F L .ret:=λa w ha hw=>by
 refine bodyPost_ret (v:=.tuple #[v,u]) ?_ ha.1 ⟨_,M,rfl,hR,hw.below,λg t cs hm=>(hM w hw).blk g t cs hm,(hM w hw).apart⟩
 rcases Res.run h ha hw with ⟨t,rfl,e1⟩ | ⟨t,ty,ad,rfl,e1,e2⟩ <;> rcases Res.run k ha hw with ⟨t',rfl,f1⟩ | ⟨t',ty',ad',rfl,f1,f2⟩ <;> simp [results,Result.andThen, *]
theorem St.none {w:World} (h:St w0 w L):St w0 w []:=h.less (List.nil_sublist _)
end
section
variable {pre A B C D M N:Blocks}
theorem rot_perm:(pre++(A++(B++C))).Perm (pre++(B++(C++A))):=by
 rw [← List.append_assoc B]
 exact List.perm_append_comm.append_left pre
theorem tor_perm:(pre++(B++(C++A))).Perm (pre++(A++(B++C))):=rot_perm.symm
theorem St.pick3 {w0:Base} {w:World} (is:List Nat) (hn:is.Nodup) (hm:is.map (λi=>pre[i]?)=(M++N).map some) (hw:St w0 w (pre++(A++(B++(C++D))))):St w0 w (M++(A++(B++(C++N)))):=by
 have h1:(pre++((A++B)++C)).Sublist (pre++(A++(B++(C++D)))):=by
  rw [List.append_assoc]
  exact (List.Sublist.refl pre).append ((List.Sublist.refl A).append ((List.Sublist.refl B).append (List.sublist_append_left C D)))
 have h2:=St.pick2 (a:=A++B) (T:=C) is hn hm (hw.less h1)
 rwa [List.append_assoc] at h2
end
end Sy
end
section
namespace Cu
open Go.RowKit Sy
def sgc33 (d:List UInt8) (W:Option Addr) (NW cW:Nat):List Value:=d.map bv++[.slice W NW cW]
def sgv33 (d:List UInt8) (W:Option Addr) (NW cW:Nat):Value:=.agg (sgc33 d W NW cW).toArray
section
variable {d:List UInt8} {W:Option Addr} {NW cW:Nat}
theorem sg_len (h:d.length=32):(sgc33 d W NW cW).length=33:=by simp [sgc33,h]
theorem sg_one:∀ u∈sgc33 d W NW cW,u.oneCell'=true:=λu hu=>by
 rcases List.mem_append.1 hu with hu | hu
 ·obtain ⟨x,_,rfl⟩:=List.mem_map.1 hu; rfl
 ·rw [List.mem_singleton.1 hu]; rfl
theorem sg_at (h:d.length=32):(sgc33 d W NW cW).toArray[32]? = some (.slice W NW cW):=by
 rw [List.getElem?_toArray]
 unfold sgc33
 rw [List.getElem?_append_right (by rw [List.length_map,h]; exact Nat.le_refl _),List.length_map,h]
 rfl
theorem sg_first (h:d.length=32):Value.agg (((sgc33 d W NW cW).toArray.toList.drop 0).take 32).toArray=.agg (d.map bv).toArray:=by
 show Value.agg ((((sgc33 d W NW cW)).drop 0).take 32).toArray=_
 rw [List.drop_zero]
 unfold sgc33
 rw [List.take_left' (by rw [List.length_map,h])]
theorem sg_fits (h:d.length=32):0+32≤(sgc33 d W NW cW).toArray.size:=by rw [List.size_toArray,sg_len h]; decide
theorem sg_whole (h:d.length=32):Value.agg (((sgc33 d W NW cW).toArray.toList.drop 0).take 33).toArray=sgv33 d W NW cW:=by
 show Value.agg ((((sgc33 d W NW cW)).drop 0).take 33).toArray=_
 rw [List.drop_zero,List.take_of_length_le (by rw [sg_len h]; exact Nat.le_refl _)]
 rfl
theorem sg_fit (h:d.length=32):0+33≤(sgc33 d W NW cW).toArray.size:=by rw [List.size_toArray,sg_len h]; decide
theorem sg_src {w:World} {g:Nat} {t:TypeId} (hb:Blk w g t (sgc33 d W NW cW).toArray):Sh.Src w (some ⟨g,0,none⟩) d:=λ_=>⟨g,0,rfl,hb.lt,λj u hj=>by
 refine (hb.cell (0+j)).trans ?_
 have hl:=(List.getElem?_eq_some_iff.1 hj).1
 rw [Nat.zero_add,List.getElem?_toArray]
 unfold sgc33
 rw [List.getElem?_append_left (by simpa using hl),List.getElem?_map,hj]
 rfl⟩
end
section
variable (s:Nat→Nat→Nat) (bm:List UInt8) (X Y:Nat→Nat→Nat) (I:Nat→Nat→Bool) (d:List UInt8)
def eE (i j:Nat):Nat:=rgC bm (alX (s i) bm i 0 (X i) (Y i) (I i) d j) i j
def eF (i j:Nat):List Value:=fws (eE s bm X Y I d i j)
def endsT (nk:Nat→Nat):Nat→List UInt8
 | 0=>[]
 | k+1=>endsT nk k++alX (s k) bm k 0 (X k) (Y k) (I k) d (nk k)
def rowOk (sn nk:Nat→Nat) (i:Nat):Bool:=decide (sn i=nk i) && (List.range (sn i)).all λj=>decide (s i j%Sc.pM=s i j)
def chB (NW NR:Nat) (sn nk:Nat→Nat):Bool:=decide (NW=NR) && ((List.range NR).all (rowOk s sn nk) && decide (rgT bm (endsT s bm X Y I d nk NR)=d))
end
section
variable {s:Nat→Nat→Nat} {bm:List UInt8} {X Y:Nat→Nat→Nat} {I:Nat→Nat→Bool} {d:List UInt8} {NW NR:Nat} {sn nk:Nat→Nat}
theorem eE_lt (i j:Nat):eE s bm X Y I d i j<K4:=rgC_lt _ _ _ _
theorem alX0_succ (s:Nat→Nat) (bm:List UInt8) (i:Nat) (X Y:Nat→Nat) (I:Nat→Bool) (x:List UInt8) (k:Nat):alX s bm i 0 X Y I x (k+1)=encS (rPt (s k) (rgC bm (alX s bm i 0 X Y I x k) i k) (X k) (Y k) (I k)):=by
 show encS (rPt (s (0+k)) (rgC bm (alX s bm i 0 X Y I x k) i (0+k)) (X (0+k)) (Y (0+k)) (I (0+k)))=_
 rw [Nat.zero_add]
theorem endsT_len (h:d.length=32):∀ k,(endsT s bm X Y I d nk k).length≤33*k
 | 0=>Nat.le_refl _
 | k+1=>by
  show (endsT s bm X Y I d nk k++_).length≤_
  have h1:=endsT_len h k
  have h2:(alX (s k) bm k 0 (X k) (Y k) (I k) d (nk k)).length≤33:=by
   rcases Nat.eq_zero_or_pos (nk k) with h0 | h0
   ·rw [h0]; show d.length≤33; omega
   ·rw [alX_len h0]; exact Nat.le_refl _
  rw [List.length_append]
  omega
theorem rowOk_len {i:Nat} (h:sn i≠nk i):rowOk s sn nk i=false:=by unfold rowOk; rw [decide_eq_false h]; rfl
theorem rowOk_num {i j:Nat} (hj:j<sn i) (h:s i j%Sc.pM≠s i j):rowOk s sn nk i=false:=by
 unfold rowOk
 rw [show ((List.range (sn i)).all λj=>decide (s i j%Sc.pM=s i j))=false from List.all_eq_false.2 ⟨j,List.mem_range.2 hj,by rw [decide_eq_false h]; decide⟩,Bool.and_false]
theorem rowOk_yes {i:Nat} (h1:sn i=nk i) (h2:∀ j,j<sn i→s i j%Sc.pM=s i j):rowOk s sn nk i=true:=by
 unfold rowOk
 rw [decide_eq_true h1,List.all_eq_true.2 λj hj=>decide_eq_true (h2 j (List.mem_range.1 hj))]
 rfl
theorem chB_len (h:NW≠NR):chB s bm X Y I d NW NR sn nk=false:=by unfold chB; rw [decide_eq_false h]; rfl
theorem chB_row {k:Nat} (hk:k<NR) (h:rowOk s sn nk k=false):chB s bm X Y I d NW NR sn nk=false:=by
 unfold chB
 rw [show (List.range NR).all (rowOk s sn nk)=false from List.all_eq_false.2 ⟨k,List.mem_range.2 hk,by rw [h]; decide⟩,Bool.false_and,Bool.and_false]
theorem chB_end (h:rgT bm (endsT s bm X Y I d nk NR)≠d):chB s bm X Y I d NW NR sn nk=false:=by
 unfold chB
 rw [decide_eq_false h,Bool.and_false,Bool.and_false]
theorem chB_yes (h0:NW=NR) (h1:∀ i,i<NR→rowOk s sn nk i=true) (h:rgT bm (endsT s bm X Y I d nk NR)=d):chB s bm X Y I d NW NR sn nk=true:=by
 unfold chB
 rw [decide_eq_true h0,decide_eq_true h,List.all_eq_true.2 λi hi=>h1 i (List.mem_range.1 hi)]
 rfl
end
def xlen:Nat→Nat
 | 0=>32
 | _+1=>33
def XtIs (g:Nat) (d l:List UInt8) (j:Nat) (xt:Sh.Tx) (xb:Blocks):Prop:=(j=0∧xt=⟨some ⟨g,0,none⟩,d,32⟩∧xb=[]∧l=d)∨(0<j∧l.length=33∧∃ q,xt=⟨some ⟨q,0,none⟩,l,33⟩∧xb=[(q,191,(l.map bv).toArray)])
section
variable {g j:Nat} {d l:List UInt8} {xt:Sh.Tx} {xb:Blocks} {w0:Base} {w:World} {L:Blocks}
theorem XtIs.li (h:XtIs g d l j xt xb):xt.l=l:=by
 rcases h with ⟨_,rfl,_,rfl⟩ | ⟨_,_,q,rfl,_⟩ <;> rfl
theorem XtIs.xl (h:XtIs g d l j xt xb) (hd:d.length=32):xt.l.length=xlen j:=by
 rcases h with ⟨rfl,rfl,_,rfl⟩ | ⟨hj,hl,q,rfl,_⟩
 ·exact hd
 ·cases j with
  | zero=>omega
  | succ j=>exact hl
theorem XtIs.val (h:XtIs g d l j xt xb) (hd:d.length=32):xt.val=.slice xt.A (xlen j) xt.c:=by
 unfold Sh.Tx.val
 rw [h.xl hd]
theorem XtIs.len (h:XtIs g d l j xt xb) (hd:d.length=32):xt.l.length≤33∧xt.l.length≤xt.c∧xt.c≤33:=by
 rcases h with ⟨_,rfl,_,rfl⟩ | ⟨_,hl,q,rfl,_⟩
 ·show l.length≤33∧l.length≤32∧32≤33; omega
 ·show l.length≤33∧l.length≤33∧33≤33; omega
theorem XtIs.src (h:XtIs g d l j xt xb) {t:TypeId} {W:Option Addr} {NW cW:Nat} (hw:St w0 w L) (hg:(g,t,(sgc33 d W NW cW).toArray)∈L) (hb:∀ b∈xb,b∈L):Sh.Src w xt.A xt.l:=by
 rcases h with ⟨_,rfl,_,rfl⟩ | ⟨_,_,q,rfl,rfl⟩
 ·exact sg_src (hw.blk _ _ _ hg).2
 ·exact Sh.Src.of_blk (hw.blk _ _ _ (hb _ (List.mem_singleton.2 rfl))).2
theorem XtIs.ok (h:XtIs g d l j xt xb) (hj:0<j):∀ w L,St w0 w L→(∀ b∈xb,b∈L)→xt.ok w:=by
 rcases h with ⟨h0,_⟩ | ⟨_,hl,q,rfl,rfl⟩
 ·omega
 ·exact ok_blk (by omega) (by decide)
end
def ChR (b:Bool) (f:Nat→Nat→List Value) (nk:Nat→Nat) (NR:Nat) (v:Value) (M:Blocks):Prop:=(b=false∧v=.tuple #[.slice none 0 0,.bool false]∧M=[])∨(b=true∧∃ u,v=.tuple #[u,.bool true]∧GivesRows 51 42 4 f (cntR nk NR 0) NR u M)
set_option maxHeartbeats 4000000 in
set_option maxRecDepth 100000 in
theorem challengesG_any (w:World) (R:Option Addr) (NR cR:Nat) (a:Nat→Option Addr) (nk ck:Nat→Nat) (X Y:Nat→Nat→Nat) (I:Nat→Nat→Bool) (hX:∀ i k,X i k<K4) (hY:∀ i k,Y i k<K4) (hNR:NR≤4611686018427387904) (hnk:∀ i,nk i≤4611686018427387904) (hlr:Lst w 1 R NR (λi=>[.slice (a i) (nk i) (ck i)])) (hlk:∀ i,i<NR→Lst w 9 (a i) (nk i) (λk=>pml (X i k) (Y i k) (I i k))) (hN32:NR≤32) (hn64:∀ i,i<NR→nk i≤64) (hn1:∀ i,i<NR→1≤nk i) (bm:List UInt8) (hbm:bm.length=32) (d:List UInt8) (hd:d.length=32) (W:Option Addr) (NW cW:Nat) (sa:Nat→Option Addr) (sn sc:Nat→Nat) (s:Nat→Nat→Nat) (hsc:∀ i k,s i k<K4) (hNW:NW≤4611686018427387904) (hsn9:∀ i,i<NW→sn i≤4611686018427387904) (hlw:Lst w 1 W NW (λi=>[.slice (sa i) (sn i) (sc i)])) (hls:∀ i,i<NW→Lst w 4 (sa i) (sn i) (λk=>fws (s i k))) (ht:Sh.TabAt w 1):Calls Tryz.prog 48 #[bndv R NR cR bm,sgv33 d W NW cW] w (GetsN w (ChR (chB s bm X Y I d NW NR sn nk) (eF s bm X Y I d) nk NR)):=by
 have hlr0:=hlr
 obtain ⟨gR,oR,hR⟩:=hlr
 obtain ⟨gW,oW,hW⟩:=hlw
 refine Sy.enter (args:=[bndv R NR cR bm,sgv33 d W NW cW]) Tryz.func48 rfl kL ?_
 refine sC ?_
 refine sM 86 (bndc R NR cR bm).toArray (λg0=>?_)
 refine sM 31 (sgc33 d W NW cW).toArray (λg1=>?_)
 refine sP (.slice none 0 0)<|sP (.bool false) ?_
 refine sG ?_
 refine Sy.scope ?_
 refine Sy.seq<|sC ?_
 refine sP (.pointer (some ⟨g1,32,none⟩))<|sS (.slice W NW cW) (Quiet.cell 1 g1 32 31 29 (sgc33 d W NW cW).toArray _ _ rfl kR kR Tryz.underlying29 rfl _ (sg_at hd))<|sP (.int .i64 ((NW:Nat):Int))<|sP (.pointer (some ⟨g0,0,none⟩))<|sS (.slice R NR cR) (Quiet.cell 0 g0 0 86 25 (bndc R NR cR bm).toArray _ _ rfl kR kR Tryz.underlying25 rfl _ kR)<|sP (.int .i64 ((NR:Nat):Int)) ?_
 obtain ⟨b1,hb1⟩:∃ z:Bool,z=decide (NW≠NR):=⟨_,rfl⟩
 refine sS (.bool b1) (Quiet.pure (exec_int .neq _ _ _ .i64 _ _ _ rfl rfl rfl (int_neq _ _ _ _ _ (by rw [hb1]; exact decide_eq_decide.2 (by omega))))) ?_
 refine sG ?_
 cases b1
 ·have lb1:¬ (NW≠NR):=of_decide_eq_false hb1.symm
  obtain rfl:NR=NW:=by omega
  refine sU<|Sy.skip<|sB ?_
  refine sP (.pointer (some ⟨g0,0,none⟩))<|sS (.slice R NR cR) (Quiet.cell 0 g0 0 86 25 (bndc R NR cR bm).toArray _ _ rfl kR kR Tryz.underlying25 rfl _ kR)<|sP (.int .i64 ((NR:Nat):Int)) ?_
  refine Sy.make kR 51 (flat (λ_=>[.slice none 0 0]) NR).toArray (λg=>.slice (some ⟨g,0,none⟩) NR NR) (Makes.slice 29 51 _ (.slice none 0 0) 1 24 _ _ .i64 .i64 NR [.slice none 0 0] rfl rfl rfl Tryz.underlying29 info_scs kR kR (by decide) kR kR kR (by omega) (by omega)) (λg2=>?_)
  refine sP (.slice (some ⟨g2,0,none⟩) NR NR) ?_
  refine sA ?_
  refine sP (.slice none 0 0) ?_
  refine sG<|Sy.seq ?_
  refine Sy.label ?_
  refine Sy.then_<|Sy.seq<|sC ?_
  refine sP (.pointer (some ⟨g1,32,none⟩))<|sS (.slice W NR cW) (Quiet.cell 1 g1 32 31 29 (sgc33 d W NR cW).toArray _ _ rfl kR kR Tryz.underlying29 rfl _ (sg_at hd))<|sP (.int .i64 ((NR:Nat):Int))<|sP (.int .i64 0) ?_
  refine sG<|Sy.block ?_
  refine Sy.loopT (Y:=(Nat→Slc)×Slc×Blocks×List Sh.Tx) NR (λk1 y1=>[(2,.pointer (some ⟨g0,0,none⟩)),(3,.pointer (some ⟨g1,0,none⟩)),(6,.slice (some ⟨g2,0,none⟩) NR NR),(7,y1.2.1.v),(26,.slice W NR cW),(27,.int .i64 ((NR:Nat):Int)),(28,.int .i64 ((k1:Nat):Int))]) (λk1 y1=>[(g0,86,(bndc R NR cR bm).toArray),(g1,31,(sgc33 d W NR cW).toArray),(g2,51,(rowsC y1.1 NR))]++(rowsB y1.1 NR++(y1.2.1.bl++y1.2.2.1))) (λk1 y1=>RowsAre y1.1 42 4 (eF s bm X Y I d) (cntR nk k1 0)∧TxsIs (Base.of w) 24 y1.2.1 y1.2.2.1 y1.2.2.2∧Sh.cat y1.2.2.2=endsT s bm X Y I d nk k1∧y1.2.2.2.length=k1∧∀ i,i<k1→rowOk s sn nk i=true) (λ_=>nilS,nilS,[],[]) ⟨(RowsAre.nil _ _ _).cnt (cntR_zero nk),TxsIs.nil _ _,rfl,rfl,λi hi=>absurd hi (Nat.not_lt_zero _)⟩ (all_cons kR (all_cons kR (all_cons kR (all_cons kR (all_cons kR (all_cons kR (all_cons kR all_nil))))))) (λw hw=>by rw [rowsB_nil]; exact hw) (λk1 y1 hk1 hh1=>?_)
  refine sC ?_
  obtain ⟨b2,hb2⟩:∃ z:Bool,z=decide (k1<NR):=⟨_,rfl⟩
  refine sS (.bool b2) (Quiet.pure (exec_int .lss _ _ _ .i64 _ _ _ rfl rfl rfl (int_lss _ _ _ _ _ (by rw [hb2]; exact decide_eq_decide.2 (by omega))))) ?_
  refine sG<|Sy.seq ?_
  cases b2
  ·have lb2:¬ (k1<NR):=of_decide_eq_false hb2.symm
   refine sU<|Sy.exit<|Sy.then_exit<|Sy.then_exit ?_
   obtain rfl:NR=k1:=by omega
   refine Sy.in_exit<|Sy.then_<|Sy.seq<|Sy.seq ?_
   refine Sy.regionD (λj=>false) kR ?_
   refine sZ 0 rfl (y1.2.1.v)<|sD 1 rfl (.int .i64 ((NR:Nat):Int)) (Quiet.lenR hh1.2.1.row (by rw [List.length_map]; exact hh1.2.2.2.1) _ Tryz.underlying95 rfl rfl)<|sZ 2 rfl (.pointer (some ⟨g0,0,none⟩))<|sD 3 rfl (.slice R NR cR) (Quiet.cell 0 g0 0 86 25 (bndc R NR cR bm).toArray _ _ rfl kR kR Tryz.underlying25 rfl _ kR)<|sZ 4 rfl (.int .i64 ((NR:Nat):Int)) ?_
   obtain ⟨b3,hb3⟩:∃ z:Bool,z=decide (NR≠NR):=⟨_,rfl⟩
   refine sD 5 rfl (.bool b3) (Quiet.pure (exec_int .neq _ _ _ .i64 _ _ _ rfl rfl rfl (int_neq _ _ _ _ _ (by rw [hb3]; exact decide_eq_decide.2 (by omega)))))<|sZ 6 rfl (.bool b3) ?_
   cases b3
   ·have lb3:¬ (NR≠NR):=of_decide_eq_false hb3.symm
    refine sD 7 rfl (bndv R NR cR bm) (Quiet.load 0 g0 0 33 86 86 (bndc R NR cR bm).toArray _ _ rfl kR kR Tryz.underlying86 rfl kR _ (bnd_whole hbm) (bnd_size hbm))<|sZ 8 rfl (y1.2.1.v) ?_
    obtain ⟨d0,hd0⟩:∃ l,l=rgT bm (endsT s bm X Y I d nk NR):=⟨_,rfl⟩
    have hd1:d0.length=32:=by rw [hd0]; exact rgT_len _ _
    refine sD 9 rfl (.agg (d0.map bv).toArray) (Quiet.callS 112 #[bndv R NR cR bm,y1.2.1.v] kF (λw hw=>by obtain ⟨Q,dd,hv,hc9,_,htx⟩:=hh1.2.1.texts; rw [hv,hd0, ← hh1.2.2.1]; have hel:=endsT_len (s:=s) (bm:=bm) (X:=X) (Y:=Y) (I:=I) (nk:=nk) hd NR; exact firstG_any w R NR cR bm hbm Q _ dd y1.2.2.2 (htx hw (λb hb=>List.mem_append.2 (.inr (List.mem_append.2 (.inr (List.mem_append.2 (.inl hb)))))) (λb hb=>List.mem_append.2 (.inr (List.mem_append.2 (.inr (List.mem_append.2 (.inr hb))))))) (hh1.2.1.ok w _ hw (λb hb=>List.mem_append.2 (.inr (List.mem_append.2 (.inr (List.mem_append.2 (.inr hb))))))) rfl hc9 (by omega) (by rw [hh1.2.2.1]; omega) (ht.below hw.below ht.lt)))<|sZ 10 rfl (.pointer (some ⟨g1,0,none⟩))<|sD 11 rfl (.agg (d.map bv).toArray) (Quiet.load 1 g1 0 32 31 23 (sgc33 d W NR cW).toArray _ _ rfl kR kR Tryz.underlying23 rfl kR _ (sg_first hd) (sg_fits hd)) ?_
    obtain ⟨b4,hb4⟩:∃ z:Bool,z=decide (d0≠d):=⟨_,rfl⟩
    refine sD 12 rfl (.bool b4) (Quiet.pure (λw=>by rw [hb4]; exact neq_digest w _ _ _ _ d0 d hd1 hd rfl rfl rfl))<|sZ 13 rfl (.bool b4) ?_
    refine sI ?_
    cases b4
    ·have lb4:¬ (d0≠d):=of_decide_eq_false hb4.symm
     refine sU<|Sy.skip<|sB ?_
     refine sP (.slice (some ⟨g2,0,none⟩) NR NR)<|sP (.slice (some ⟨g2,0,none⟩) NR NR)<|sP (.bool true) ?_
     refine sG<|Sy.ret ?_
     refine Sy.sc_r ?_
     exact retGM2 ((g2,51,rowsC y1.1 NR)::rowsB y1.1 NR) rfl (v:=.slice (some ⟨g2,0,none⟩) NR NR) (u:=.bool true) (.inl (show _=_ by kernel_rfl)) (.inl (show _=_ by kernel_rfl)) (λw hw=>(St.pick (pre:=[(g0,86,(bndc R NR cR bm).toArray),(g1,31,(sgc33 d W NR cW).toArray),(g2,51,(rowsC y1.1 NR))]) (M:=[(g2,51,rowsC y1.1 NR)]) [2] (by decide) kR hw).less (by rw [← List.append_assoc]; exact List.sublist_append_left _ _)) (.inr ⟨chB_yes rfl hh1.2.2.2.2 (by rw [← hd0]; exact Decidable.of_not_not lb4),_,rfl,_,y1.1,rfl,rfl,hh1.1⟩)
    ·have lb4:d0≠d:=of_decide_eq_true hb4.symm
     refine sT<|sC ?_
     refine sP (.slice none 0 0)<|sP (.bool false) ?_
     refine sG<|Sy.ret<|Sy.then_ret ?_
     refine Sy.sc_r ?_
     exact retGM2 [] rfl (v:=.slice none 0 0) (u:=.bool false) (.inl (show _=_ by kernel_rfl)) (.inl (show _=_ by kernel_rfl)) (λ_ hw=>hw.none) (.inl ⟨chB_end (by rw [← hd0]; exact lb4),rfl,rfl⟩)
   ·have lb3:NR≠NR:=of_decide_eq_true hb3.symm
    exact absurd rfl lb3
  ·have lb2:k1<NR:=of_decide_eq_true hb2.symm
   have hnk1:=hn64 k1 lb2
   have hnk0:=hn1 k1 lb2
   obtain ⟨gK,oK,hT⟩:=hlk k1 lb2
   obtain ⟨gS,oS,hS⟩:=hls k1 lb2
   have hsn8:=hsn9 k1 lb2
   refine sT<|Sy.skip<|Sy.then_<|Sy.seq<|Sy.block<|sC ?_
   refine sP (.int .i64 ((k1:Nat):Int))<|sS (.pointer (some ⟨gW,oW+k1*1,none⟩)) (Quiet.pure (exec_atO 29 _ _ _ W gW oW NR cW k1 1 .i64 (hW (by omega)).1 rfl rfl rfl Tryz.underlying29 kF (by omega)))<|sS (.slice (sa k1) (sn k1) (sc k1)) (Quiet.thereOne gW (oW+k1*1) 51 _ _ rfl kR (hW (by omega)).2.1 _ (range_one ((hW (by omega)).2.2 k1 (by omega)) 0 rfl) Tryz.underlying51 rfl)<|sP (.int .i64 ((k1:Nat):Int))<|sP (.slice (sa k1) (sn k1) (sc k1)) ?_
   refine sG<|Sy.seq<|sC ?_
   refine sP (.slice (sa k1) (sn k1) (sc k1))<|sP (.int .i64 (((sn k1):Nat):Int))<|sP (.pointer (some ⟨g0,0,none⟩))<|sS (.slice R NR cR) (Quiet.cell 0 g0 0 86 25 (bndc R NR cR bm).toArray _ _ rfl kR kR Tryz.underlying25 rfl _ kR)<|sP (.int .i64 ((k1:Nat):Int))<|sS (.pointer (some ⟨gR,oR+k1*1,none⟩)) (Quiet.pure (exec_atO 25 _ _ _ R gR oR NR cR k1 1 .i64 (hR (by omega)).1 rfl rfl rfl Tryz.underlying25 kF (by omega)))<|sS (.slice (a k1) (nk k1) (ck k1)) (Quiet.thereOne gR (oR+k1*1) 45 _ _ rfl kR (hR (by omega)).2.1 _ (range_one ((hR (by omega)).2.2 k1 (by omega)) 0 rfl) Tryz.underlying45 rfl)<|sP (.int .i64 (((nk k1):Nat):Int)) ?_
   obtain ⟨b5,hb5⟩:∃ z:Bool,z=decide ((sn k1)≠(nk k1)):=⟨_,rfl⟩
   refine sS (.bool b5) (Quiet.pure (exec_int .neq _ _ _ .i64 _ _ _ rfl rfl rfl (int_neq _ _ _ _ _ (by rw [hb5]; exact decide_eq_decide.2 (by omega))))) ?_
   refine sG ?_
   cases b5
   ·have lb5:¬ ((sn k1)≠(nk k1)):=of_decide_eq_false hb5.symm
    have hsn:sn k1=nk k1:=by omega
    refine sU<|Sy.skip<|sB ?_
    refine sP (.pointer (some ⟨g1,0,none⟩))<|sP (.slice (some ⟨g1,0,none⟩) 32 32)<|sP (.slice (some ⟨g1,0,none⟩) 32 32) ?_
    refine sG<|Sy.seq<|sC ?_
    refine sP (.slice (sa k1) (sn k1) (sc k1))<|sP (.int .i64 (((sn k1):Nat):Int))<|sP (.int .i64 0) ?_
    refine sG<|Sy.block ?_
    refine Sy.loopT (Y:=(Nat→Slc)×Sh.Tx×Blocks) (sn k1) (λk2 y2=>[(2,.pointer (some ⟨g0,0,none⟩)),(3,.pointer (some ⟨g1,0,none⟩)),(6,.slice (some ⟨g2,0,none⟩) NR NR),(7,y1.2.1.v),(8,.int .i64 ((k1:Nat):Int)),(9,.slice (sa k1) (sn k1) (sc k1)),(10,.slice y2.2.1.A (xlen k2) y2.2.1.c),(26,.slice W NR cW),(27,.int .i64 ((NR:Nat):Int)),(28,.int .i64 ((k1:Nat):Int)),(44,.slice (sa k1) (sn k1) (sc k1)),(45,.int .i64 (((sn k1):Nat):Int)),(46,.int .i64 ((k2:Nat):Int))]) (λk2 y2=>[(g0,86,(bndc R NR cR bm).toArray),(g1,31,(sgc33 d W NR cW).toArray),(g2,51,(rowsC y2.1 NR))]++(rowsB y2.1 NR++(y1.2.1.bl++(y1.2.2.1++y2.2.2)))) (λk2 y2=>RowsAre y2.1 42 4 (eF s bm X Y I d) (cntR nk k1 k2)∧XtIs g1 d (alX (s k1) bm k1 0 (X k1) (Y k1) (I k1) d k2) k2 y2.2.1 y2.2.2∧∀ i,i<k2→s k1 i%Sc.pM=s k1 i) (y1.1,⟨some ⟨g1,0,none⟩,d,32⟩,[]) ⟨hh1.1,.inl ⟨rfl,rfl,rfl,rfl⟩,λi hi=>absurd hi (Nat.not_lt_zero _)⟩ (all_cons kR (all_cons kR (all_cons kR (all_cons kR (all_cons kR (all_cons kR (all_cons kR (all_cons kR (all_cons kR (all_cons kR (all_cons kR (all_cons kR (all_cons kR all_nil))))))))))))) (λw hw=>by rw [List.append_nil]; exact hw) (λk2 y2 hk2 hh2=>?_)
    refine sC ?_
    obtain ⟨b6,hb6⟩:∃ z:Bool,z=decide (k2<(sn k1)):=⟨_,rfl⟩
    refine sS (.bool b6) (Quiet.pure (exec_int .lss _ _ _ .i64 _ _ _ rfl rfl rfl (int_lss _ _ _ _ _ (by rw [hb6]; exact decide_eq_decide.2 (by omega))))) ?_
    refine sG<|Sy.seq ?_
    cases b6
    ·have lb6:¬ (k2<(sn k1)):=of_decide_eq_false hb6.symm
     refine sU<|Sy.exit<|Sy.then_exit<|Sy.then_exit ?_
     obtain rfl:k2=sn k1:=by omega
     refine Sy.in_exit<|Sy.then_<|Sy.region ?_
     refine sP (y1.2.1.v)<|sP (.slice y2.2.1.A (xlen (sn k1)) y2.2.1.c) ?_
     refine Sy.make kR 24 #[.slice y2.2.1.A (xlen (sn k1)) y2.2.1.c] (λg=>.slice (some ⟨g,0,none⟩) 1 1) kF (λg3=>?_)
     refine Sy.movT ?_
     refine Sy.permS Sy.rot_perm ?_
     refine Sy.appendR kR 95 24 _ _ 1 24 Tryz.underlying95 info_sl rfl rfl rfl rfl (by decide) _ _ rfl hh1.2.1.row kR [.slice y2.2.1.A (xlen (sn k1)) y2.2.1.c] rfl (one_sl _ _ _) 3 g3 24 kR kR (by rw [List.length_map,hh1.2.2.2.1]; omega) (by rw [List.length_map,hh1.2.2.2.1]; simp only [maxLen]; omega) (λr1 hr1=>?_)
     refine Sy.permS Sy.tor_perm ?_
     refine sP (r1.v) ?_
     refine Sy.nil<|Sy.in_<|Sy.then_<|Sy.region ?_
     refine sS (.int .i64 ((k1+1:Nat):Int)) (Quiet.pure (exec_int .add _ _ _ .i64 _ _ _ rfl rfl rfl (int_add _ _ _ _ _ ((wrap_i64 (by omega) (by omega)).trans (by omega)))))<|sP (.int .i64 ((k1+1:Nat):Int)) ?_
     refine Sy.nil ?_
     exact Sy.againT ((y2.1,r1,y1.2.2.1++y2.2.2,y1.2.2.2++[y2.2.1])) (by omega) (⟨hh2.1.cnt (λi=>by rw [hsn]; exact cntR_next nk k1 i),hh1.2.1.add y2.2.1 y2.2.2 hr1 (hh2.2.1.val hd) (hh2.2.1.ok (by omega)),by rw [cat_add,hh1.2.2.1,hh2.2.1.li,hsn]; rfl,by rw [List.length_append,hh1.2.2.2.1]; rfl,λi hi=>(Nat.lt_succ_iff_lt_or_eq.1 hi).elim (hh1.2.2.2.2 i) (λh=>by rw [h]; exact rowOk_yes hsn hh2.2.2)⟩) (all_cons kR (all_cons kR (all_cons kR (all_cons kR (all_cons kR (all_cons kR (all_cons kR all_nil))))))) (λw hw=>St.pick (pre:=[(g0,86,(bndc R NR cR bm).toArray),(g1,31,(sgc33 d W NR cW).toArray),(g2,51,(rowsC y2.1 NR)),(g3,24,#[.slice y2.2.1.A (xlen (sn k1)) y2.2.1.c])]) (M:=[(g0,86,(bndc R NR cR bm).toArray),(g1,31,(sgc33 d W NR cW).toArray),(g2,51,(rowsC y2.1 NR))]) [0,1,2] (by decide) kR hw)
    ·have lb6:k2<(sn k1):=of_decide_eq_true hb6.symm
     refine sT<|Sy.skip<|Sy.then_<|Sy.seq<|Sy.block<|sC ?_
     refine sP (.int .i64 ((k2:Nat):Int))<|sS (.pointer (some ⟨gS,oS+k2*4,none⟩)) (Quiet.pure (exec_atO 51 _ _ _ (sa k1) gS oS (sn k1) (sc k1) k2 4 .i64 (hS (by omega)).1 rfl rfl rfl Tryz.underlying51 kF (by omega)))<|sS (fv (s k1 k2)) (Quiet.there gS (oS+k2*4) 4 42 (fws (s k1 k2)) _ _ rfl kR (hS (by omega)).2.1 ((hS (by omega)).2.2 k2 (by omega)) Tryz.underlying42 rfl kR rfl _ rfl) ?_
     refine sM 42 (fcs 0) (λg4=>?_)
     refine Sy.movT ?_
     refine sP (.int .i64 ((k2:Nat):Int))<|sW 3 g4 42 (fcs 0) (fcs (s k1 k2)) (wS 0 42 (fcs (s k1 k2)) rfl) ?_
     refine Sy.setT ?_
     refine sG<|Sy.seq<|Sy.seq ?_
     refine Sy.regionD (λj=>false) kR ?_
     refine sD 0 rfl (fv (s k1 k2)) (qL 3 g4 0 4 42 42 (fcs (s k1 k2)) rfl Tryz.underlying42)<|sD 1 rfl (fv (s k1 k2%Sc.pM)) (qF 116 #[fv (s k1 k2)] (λw=>Sc.norm_any w (s k1 k2) (hsc k1 k2)))<|sD 2 rfl (fv (s k1 k2)) (qL 3 g4 0 4 42 42 (fcs (s k1 k2)) rfl Tryz.underlying42) ?_
     obtain ⟨b7,hb7⟩:∃ z:Bool,z=decide ((s k1 k2%Sc.pM)≠(s k1 k2)):=⟨_,rfl⟩
     refine sD 3 rfl (.bool b7) (Quiet.pure (λw=>by rw [hb7,decide_not]; exact neq_sc w _ _ _ _ _ _ rfl rfl rfl (by first | exact hsc _ _ | exact Sc.mod_lt _ | exact rgC_lt _ _ _ _ | exact rgF_lt _ _ _ _ | assumption) (by first | exact hsc _ _ | exact Sc.mod_lt _ | exact rgC_lt _ _ _ _ | exact rgF_lt _ _ _ _ | assumption))) ?_
     refine sI ?_
     cases b7
     ·have lb7:¬ ((s k1 k2%Sc.pM)≠(s k1 k2)):=of_decide_eq_false hb7.symm
      have hnorm:s k1 k2%Sc.pM=s k1 k2:=Decidable.of_not_not lb7
      refine sU<|Sy.skip<|sB ?_
      refine sS (bndv R NR cR bm) (Quiet.load 0 g0 0 33 86 86 (bndc R NR cR bm).toArray _ _ rfl kR kR Tryz.underlying86 rfl kR _ (bnd_whole hbm) (bnd_size hbm))<|sP (.slice y2.2.1.A (xlen k2) y2.2.1.c)<|sP (.int .i64 ((k1:Nat):Int))<|sP (.int .i64 ((k2:Nat):Int))<|sS (fv (eE s bm X Y I d k1 k2)) (Quiet.callS 113 #[bndv R NR cR bm,.slice y2.2.1.A (xlen k2) y2.2.1.c,.int .i64 ((k1:Nat):Int),.int .i64 ((k2:Nat):Int)] kF (λw hw=>by have hl:=hh2.2.1.len hd; have hx:=hh2.2.1.xl hd; have q:=chalG_any w R NR cR bm hbm y2.2.1.A y2.2.1.l (xlen k2) y2.2.1.c hx (by omega) (by omega) (by omega) (hh2.2.1.src hw (List.mem_append.2 (.inl (List.mem_of_getElem? (i:=1) rfl))) (λb hb=>List.mem_append.2 (.inr (List.mem_append.2 (.inr (List.mem_append.2 (.inr (List.mem_append.2 (.inr hb))))))))) k1 k2 (by omega) (by omega) (ht.below hw.below ht.lt); rwa [show rgC bm y2.2.1.l k1 k2=eE s bm X Y I d k1 k2 by rw [hh2.2.1.li]; rfl] at q)) ?_
      refine sM 42 (fcs 0) (λg5=>?_)
      refine Sy.movT ?_
      refine sW 4 g5 42 (fcs 0) (fcs (eE s bm X Y I d k1 k2)) (wS 0 42 (fcs (eE s bm X Y I d k1 k2)) rfl) ?_
      refine Sy.setT ?_
      refine sH (λj=>j == 8 || j == 10) ?_
      refine Sy.stepDA 0 rfl kR (λ_ _ _ _ h=>h) kR (.slice (some ⟨g2,0,none⟩) NR NR) kF ?_
      refine Sy.stepDA 1 rfl kR (λ_ _ _ _ h=>h) kR (.int .i64 ((k1:Nat):Int)) kF ?_
      refine Sy.stepDB 2 [4,5,8,9,10] rfl kR (λ_ _ _ _ h=>h) kR (.slice (some ⟨g2,0,none⟩) NR NR) qP ?_
      refine Sy.stepDB 3 [4,5,8,9,10] rfl kR (λ_ _ _ _ h=>h) kR (.int .i64 ((k1:Nat):Int)) qP ?_
      refine Sy.stepDB 4 [5,8,9,10] rfl kR (λ_ _ _ _ h=>h) kR (.pointer (some ⟨g2,0+k1*1,none⟩)) (Quiet.pure (exec_at 29 _ _ _ g2 0 NR NR k1 1 .i64 rfl rfl rfl Tryz.underlying29 kF (by omega))) ?_
      refine sD 5 rfl ((y2.1 k1).v) (Quiet.cell 2 g2 (0+k1*1) 51 51 (rowsC y2.1 NR) _ _ rfl kR kR Tryz.underlying51 rfl _ (rowsC_get (by omega) rfl)) ?_
      refine Sy.stepDB 6 [7,8,9,10] rfl kR (λ_ _ _ _ h=>h) kR (fv (eE s bm X Y I d k1 k2)) (qL 4 g5 0 4 42 42 (fcs (eE s bm X Y I d k1 k2)) rfl Tryz.underlying42) ?_
      refine Sy.makeD 7 rfl kR kR 42 (fcs (eE s bm X Y I d k1 k2)) (λg=>.slice (some ⟨g,0,none⟩) 1 1) kF (λg6=>?_)
      refine Sy.movTD ?_
      refine Sy.soleD 8 rfl (λQ2 hq2=>?_)
      refine Sy.permS (Sy.out_perm y2.1 (i:=k1) (by omega)) ?_
      refine Sy.appendR kR 51 42 _ _ 4 32 Tryz.underlying51 info_sc rfl rfl rfl rfl (by decide) _ _ rfl (hh2.1 k1) kR (fws (eE s bm X Y I d k1 k2)) rfl (fws_one _) 5 g6 42 kR kR (by rw [List.length_map,List.length_range,cntR_at]; omega) (by rw [List.length_map,List.length_range,cntR_at]; simp only [maxLen]; omega) (λr2 hr2=>?_)
      refine hq2 _ _ ?_
      refine Sy.anyOf [9] kR (by decide) (Sy.each1 ?_)
      refine Sy.oneQuiet rfl kR (.pointer (some ⟨g2,0+k1*1,none⟩)) (Quiet.pure (exec_at 29 _ _ _ g2 0 NR NR k1 1 .i64 rfl rfl rfl Tryz.underlying29 kF (by omega))) ?_
      refine Sy.writeD 10 rfl kR (by rfl) kR 2 g2 51 (rowsC y2.1 NR) (rowsC (putR y2.1 k1 r2) NR) kR (Writes.one (0+k1*1) 51 (r2.v) _ _ rfl kR kR kR hr2.cells.1 hr2.cells.2 (rowsC_lt (by omega) rfl) (rowsC_set (by omega) rfl rfl)) ?_
      refine Sy.setTD ?_
      refine Sy.permD (Sy.in_perm (by omega)) ?_
      refine sI ?_
      refine Sy.regionD (λj=>false) kR ?_
      refine sD 0 rfl (fv (s k1 k2)) (qL 3 g4 0 4 42 42 (fcs (s k1 k2)) rfl Tryz.underlying42)<|sD 1 rfl (fv (eE s bm X Y I d k1 k2)) (qL 4 g5 0 4 42 42 (fcs (eE s bm X Y I d k1 k2)) rfl Tryz.underlying42)<|sZ 2 rfl (.pointer (some ⟨g0,0,none⟩))<|sD 3 rfl (.slice R NR cR) (Quiet.cell 0 g0 0 86 25 (bndc R NR cR bm).toArray _ _ rfl kR kR Tryz.underlying25 rfl _ kR)<|sZ 4 rfl (.int .i64 ((k1:Nat):Int))<|sD 5 rfl (.pointer (some ⟨gR,oR+k1*1,none⟩)) (Quiet.pure (exec_atO 25 _ _ _ R gR oR NR cR k1 1 .i64 (hR (by omega)).1 rfl rfl rfl Tryz.underlying25 kF (by omega)))<|sD 6 rfl (.slice (a k1) (nk k1) (ck k1)) (Quiet.thereOne gR (oR+k1*1) 45 _ _ rfl kR (hR (by omega)).2.1 _ (range_one ((hR (by omega)).2.2 k1 (by omega)) 0 rfl) Tryz.underlying45 rfl)<|sZ 7 rfl (.int .i64 ((k2:Nat):Int)) ?_
      refine sD 8 rfl (.pointer (some ⟨gK,oK+k2*9,none⟩)) (Quiet.pure (exec_atO 45 _ _ _ (a k1) gK oK (nk k1) (ck k1) k2 9 .i64 (hT (by omega)).1 rfl rfl rfl Tryz.underlying45 kF (by omega)))<|sD 9 rfl (pv (X k1 k2) (Y k1 k2) (I k1 k2)) (Quiet.there gK (oK+k2*9) 9 48 (pml (X k1 k2) (Y k1 k2) (I k1 k2)) _ _ rfl kR (hT (by omega)).2.1 ((hT (by omega)).2.2 k2 (by omega)) Tryz.underlying48 rfl kR rfl _ rfl) ?_
      refine Sy.callND 10 rfl kR kR 117 #[fv (s k1 k2),fv (eE s bm X Y I d k1 k2),pv (X k1 k2) (Y k1 k2) (I k1 k2)] kF ((CodeIs (rPt (s k1 k2) (eE s bm X Y I d k1 k2) (X k1 k2) (Y k1 k2) (I k1 k2)))) (λw hw=>answer_any w _ _ _ _ _ (hsc _ _) (eE_lt _ _) (hX _ _) (hY _ _)) (λvq Mq hR0=>?_)
      obtain ⟨q7,rfl,rfl⟩:=hR0
      refine Sy.movTD ?_
      refine sZ 11 rfl (.slice (some ⟨q7,0,none⟩) 33 33) ?_
      refine sE ?_
      refine Sy.in_<|Sy.then_<|Sy.region ?_
      refine sS (.int .i64 ((k2+1:Nat):Int)) (Quiet.pure (exec_int .add _ _ _ .i64 _ _ _ rfl rfl rfl (int_add _ _ _ _ _ ((wrap_i64 (by omega) (by omega)).trans (by omega)))))<|sP (.int .i64 ((k2+1:Nat):Int)) ?_
      refine Sy.nil ?_
      exact Sy.againT ((putR y2.1 k1 r2,(⟨some ⟨q7,0,none⟩,encS (rPt (s k1 k2) (eE s bm X Y I d k1 k2) (X k1 k2) (Y k1 k2) (I k1 k2)),33⟩:Sh.Tx),[(q7,191,((encS (rPt (s k1 k2) (eE s bm X Y I d k1 k2) (X k1 k2) (Y k1 k2) (I k1 k2))).map bv).toArray)])) (by omega) (⟨hh2.1.put' hr2 rfl,by rw [alX0_succ]; exact .inr ⟨Nat.succ_pos _,encS_length _,q7,rfl,rfl⟩,λi hi=>(Nat.lt_succ_iff_lt_or_eq.1 hi).elim (hh2.2.2 i) (λh=>by rw [h]; exact hnorm)⟩) (all_cons kR (all_cons kR (all_cons kR (all_cons kR (all_cons kR (all_cons kR (all_cons kR (all_cons kR (all_cons kR (all_cons kR (all_cons kR (all_cons kR (all_cons kR all_nil))))))))))))) (λw hw=>St.pick3 (pre:=[(g0,86,(bndc R NR cR bm).toArray),(g1,31,(sgc33 d W NR cW).toArray),(g2,51,(rowsC (putR y2.1 k1 r2) NR)),(g4,42,(fcs (s k1 k2))),(g5,42,(fcs (eE s bm X Y I d k1 k2))),(g6,42,(fcs (eE s bm X Y I d k1 k2))),(q7,191,((encS (rPt (s k1 k2) (eE s bm X Y I d k1 k2) (X k1 k2) (Y k1 k2) (I k1 k2))).map bv).toArray)]) (M:=[(g0,86,(bndc R NR cR bm).toArray),(g1,31,(sgc33 d W NR cW).toArray),(g2,51,(rowsC (putR y2.1 k1 r2) NR))]) (N:=[(q7,191,((encS (rPt (s k1 k2) (eE s bm X Y I d k1 k2) (X k1 k2) (Y k1 k2) (I k1 k2))).map bv).toArray)]) [0,1,2,6] (by decide) kR hw)
     ·have lb7:(s k1 k2%Sc.pM)≠(s k1 k2):=of_decide_eq_true hb7.symm
      refine sT<|Sy.exit<|Sy.then_exit ?_
      refine Sy.in_pass (by decide) ?_
      refine Sy.then_exit<|Sy.then_exit ?_
      refine Sy.in_pass (by decide) ?_
      refine Sy.then_exit ?_
      refine Sy.in_pass (by decide) ?_
      refine Sy.then_exit<|Sy.then_exit<|Sy.in_exit<|Sy.then_<|Sy.seq<|Sy.seq ?_
      refine Sy.regionD (λj=>false) kR ?_
      refine sZ 0 rfl (y1.2.1.v)<|sD 1 rfl (.int .i64 ((k1:Nat):Int)) (Quiet.lenR hh1.2.1.row (by rw [List.length_map]; exact hh1.2.2.2.1) _ Tryz.underlying95 rfl rfl)<|sZ 2 rfl (.pointer (some ⟨g0,0,none⟩))<|sD 3 rfl (.slice R NR cR) (Quiet.cell 0 g0 0 86 25 (bndc R NR cR bm).toArray _ _ rfl kR kR Tryz.underlying25 rfl _ kR)<|sZ 4 rfl (.int .i64 ((NR:Nat):Int)) ?_
      obtain ⟨b8,hb8⟩:∃ z:Bool,z=decide (k1≠NR):=⟨_,rfl⟩
      refine sD 5 rfl (.bool b8) (Quiet.pure (exec_int .neq _ _ _ .i64 _ _ _ rfl rfl rfl (int_neq _ _ _ _ _ (by rw [hb8]; exact decide_eq_decide.2 (by omega)))))<|sZ 6 rfl (.bool b8) ?_
      cases b8
      ·have lb8:¬ (k1≠NR):=of_decide_eq_false hb8.symm
       exact absurd (show k1≠NR by omega) lb8
      ·have lb8:k1≠NR:=of_decide_eq_true hb8.symm
       refine sQ 7 rfl<|sQ 8 rfl<|sQ 9 rfl<|sQ 10 rfl<|sQ 11 rfl<|sQ 12 rfl<|sZ 13 rfl (.bool true) ?_
       refine sI ?_
       refine sT<|sC ?_
       refine sP (.slice none 0 0)<|sP (.bool false) ?_
       refine sG<|Sy.ret<|Sy.then_ret ?_
       refine Sy.sc_r ?_
       exact retGM2 [] rfl (v:=.slice none 0 0) (u:=.bool false) (.inl (show _=_ by kernel_rfl)) (.inl (show _=_ by kernel_rfl)) (λ_ hw=>hw.none) (.inl ⟨chB_row (by assumption) (rowOk_num (by assumption) lb7),rfl,rfl⟩)
   ·have lb5:(sn k1)≠(nk k1):=of_decide_eq_true hb5.symm
    refine sT<|Sy.exit<|Sy.then_exit ?_
    refine Sy.in_pass (by decide) ?_
    refine Sy.then_exit<|Sy.then_exit<|Sy.in_exit<|Sy.then_<|Sy.seq<|Sy.seq ?_
    refine Sy.regionD (λj=>false) kR ?_
    refine sZ 0 rfl (y1.2.1.v)<|sD 1 rfl (.int .i64 ((k1:Nat):Int)) (Quiet.lenR hh1.2.1.row (by rw [List.length_map]; exact hh1.2.2.2.1) _ Tryz.underlying95 rfl rfl)<|sZ 2 rfl (.pointer (some ⟨g0,0,none⟩))<|sD 3 rfl (.slice R NR cR) (Quiet.cell 0 g0 0 86 25 (bndc R NR cR bm).toArray _ _ rfl kR kR Tryz.underlying25 rfl _ kR)<|sZ 4 rfl (.int .i64 ((NR:Nat):Int)) ?_
    obtain ⟨b9,hb9⟩:∃ z:Bool,z=decide (k1≠NR):=⟨_,rfl⟩
    refine sD 5 rfl (.bool b9) (Quiet.pure (exec_int .neq _ _ _ .i64 _ _ _ rfl rfl rfl (int_neq _ _ _ _ _ (by rw [hb9]; exact decide_eq_decide.2 (by omega)))))<|sZ 6 rfl (.bool b9) ?_
    cases b9
    ·have lb9:¬ (k1≠NR):=of_decide_eq_false hb9.symm
     exact absurd (show k1≠NR by omega) lb9
    ·have lb9:k1≠NR:=of_decide_eq_true hb9.symm
     refine sQ 7 rfl<|sQ 8 rfl<|sQ 9 rfl<|sQ 10 rfl<|sQ 11 rfl<|sQ 12 rfl<|sZ 13 rfl (.bool true) ?_
     refine sI ?_
     refine sT<|sC ?_
     refine sP (.slice none 0 0)<|sP (.bool false) ?_
     refine sG<|Sy.ret<|Sy.then_ret ?_
     refine Sy.sc_r ?_
     exact retGM2 [] rfl (v:=.slice none 0 0) (u:=.bool false) (.inl (show _=_ by kernel_rfl)) (.inl (show _=_ by kernel_rfl)) (λ_ hw=>hw.none) (.inl ⟨chB_row (by assumption) (rowOk_len lb5),rfl,rfl⟩)
 ·have lb1:NW≠NR:=of_decide_eq_true hb1.symm
  refine sT<|sC ?_
  refine sP (.slice none 0 0)<|sP (.bool false) ?_
  refine sG<|Sy.ret<|Sy.then_ret ?_
  refine Sy.sc_r ?_
  exact retGM2 [] rfl (v:=.slice none 0 0) (u:=.bool false) (.inl (show _=_ by kernel_rfl)) (.inl (show _=_ by kernel_rfl)) (λ_ hw=>hw.none) (.inl ⟨chB_len lb1,rfl,rfl⟩)
end Cu
end
section
namespace Sy
open Go.RowKit
section
variable {r:Nat→Slc} {n i:Nat} {pre A B C D M N T:Blocks} {b b':Nat×TypeId×Array Value} {v:Value} {w0:Base} {w:World}
theorem end_perm:((pre++(A++B))++D).Perm (pre++(A++(B++D))):=by
 rw [List.append_assoc,List.append_assoc]
theorem end_perm3:((pre++(A++(B++C)))++D).Perm (pre++(A++(B++(C++D)))):=by
 rw [List.append_assoc,List.append_assoc,List.append_assoc]
theorem out1 (r:Nat→Slc) (hi:i<n) (hb:(r i).bl=[b]):(pre++(rowsB r n++T)).Perm ((pre++[b])++(rowsX r n i++T)):=by
 have h:=out_perm (pre:=pre) (T:=T) r hi
 rw [hb] at h
 rwa [List.append_assoc]
theorem St.back1 (hi:i<n) (hw:St w0 w ((M++[b'])++(rowsX r n i++T))):St w0 w (M++(rowsB (putR r i ⟨v,[b']⟩) n++[])):=by
 have h1:((M++[b'])++(rowsX r n i++[])).Sublist ((M++[b'])++(rowsX r n i++T)):=(List.Sublist.refl _).append ((List.Sublist.refl _).append (List.nil_sublist _))
 refine (hw.less h1).perm ?_
 rw [List.append_assoc]
 exact in_perm (x:=⟨v,[b']⟩) hi
theorem rowsC_same {x:Slc} (h:x.v=(r i).v):rowsC (putR r i x) n=rowsC r n:=by
 unfold rowsC
 refine congrArg List.toArray (flat_congr λj _=>?_)
 by_cases hj:j=i
 ·rw [hj,putR_self,h]
 ·rw [putR_ne hj]
theorem RowsAre.upd {e:TypeId} {sz:Nat} {f f':Nat→Nat→List Value} {c:Nat→Nat} {x:Slc} (h:RowsAre r e sz f c) (hx:x.Is e sz ((List.range (c i)).map (f' i))) (hf:∀ j,j≠i→f' j=f j):RowsAre (putR r i x) e sz f' c:=λj=>by
 by_cases hj:j=i
 ·subst hj; rw [putR_self]; exact hx
 ·rw [putR_ne hj,hf j hj]; exact h j
theorem St.pick4 (is:List Nat) (hn:is.Nodup) (hm:is.map (λi=>pre[i]?)=(M++N).map some) (hw:St w0 w (pre++(A++(B++(C++D))))):St w0 w (M++(A++(B++(C++(D++N))))):=by
 have h2:=St.pick2 (a:=A++B) (T:=C++D) is hn hm (by rwa [List.append_assoc])
 rwa [List.append_assoc,List.append_assoc C] at h2
end
theorem Slc.Is.open {r:Slc} {e:TypeId} {sz m:Nat} {f:Nat→List Value} (h:r.Is e sz ((List.range m).map f)) (hm:0<m):∃ g cap sp,r.v=.slice (some ⟨g,0,none⟩) m cap∧r.bl=[(g,e,(flat f m++sp).toArray)]∧sp.length+m*sz=cap*sz∧m≤cap∧cap≤maxLen:=by
 rcases h.row with ⟨h0,_⟩ | ⟨g,cap,sp,rfl,h1,h2,h3⟩
 ·have:=congrArg List.length h0
  simp at this
  omega
 ·rw [List.length_map,List.length_range] at h1 h2
  exact ⟨g,cap,sp,by rw [List.length_map,List.length_range],by rw [show ((List.range m).map f).flatten=flat f m from (List.flatMap_def ..).symm],h1,h2,h3⟩
theorem Slc.Is.close {e:TypeId} {sz m g cap:Nat} {f:Nat→List Value} {sp:List Value} (hf:∀ k,(f k).length=sz) (h1:∀ k, ∀ u∈f k,u.oneCell'=true) (hs:sp.length+m*sz=cap*sz) (hm:m≤cap) (hc:cap≤maxLen):Slc.Is ⟨.slice (some ⟨g,0,none⟩) m cap,[(g,e,(flat f m++sp).toArray)]⟩ e sz ((List.range m).map f) :=
 ⟨λx hx=>by obtain ⟨k,_,rfl⟩:=List.mem_map.1 hx; exact hf k,λx hx=>by obtain ⟨k,_,rfl⟩:=List.mem_map.1 hx; exact h1 k,.inr ⟨g,cap,sp,by rw [List.length_map,List.length_range,show ((List.range m).map f).flatten=flat f m from (List.flatMap_def ..).symm],by rw [List.length_map,List.length_range]; exact hs,by rw [List.length_map,List.length_range]; exact hm,hc⟩⟩
theorem row_lst {w0:Base} {w:World} {L:Blocks} {g sz m:Nat} {e:TypeId} {f:Nat→List Value} {sp:List Value} (hf:∀ k,(f k).length=sz) (hw:St w0 w L) (hb:(g,e,(flat f m++sp).toArray)∈L):Lst w sz (some ⟨g,0,none⟩) m f:=by
 have hbk:=(hw.blk _ _ _ hb).2
 refine ⟨g,0,λ_=>⟨rfl,hbk.lt,λj hj=>?_⟩⟩
 rw [Nat.zero_add]
 refine blk_range hbk ?_
 show (((flat f m++sp)).drop (j*sz)).take _=_
 rw [hf j,flat_split hj,List.append_assoc,List.drop_append_of_le_length (by rw [flat_len hf]; exact Nat.le_refl _),List.drop_of_length_le (by rw [flat_len hf]; exact Nat.le_refl _),List.nil_append,List.append_assoc,List.take_left' (hf j)]
theorem flat_put1 {f:Nat→List Value} {sz m k o:Nat} {sp v:List Value} (hf:∀ k,(f k).length=sz) (hv:v.length=sz) (hk:k<m) (ho:o=0+k*sz):setAll (flat f m++sp).toArray o v=(flat (λj=>if j=k then v else f j) m++sp).toArray:=by
 have hl:=flat_len hf m
 have hkm:k*sz+sz≤m*sz:=by have:=Nat.mul_le_mul_right sz (show k+1≤m from hk); rwa [Nat.succ_mul] at this
 have h1:=setAll_is v o (flat f m++sp).toArray (by rw [List.size_toArray,List.length_append]; omega)
 have h2:=setAll_is v o (flat f m).toArray (by rw [List.size_toArray]; omega)
 have h3:=flat_set (f:=f) hf hv hk (show o=k*sz by omega)
 rw [h2] at h3
 have h4:=congrArg Array.toList h3
 rw [h1]
 refine congrArg List.toArray ?_
 simp only at h4 ⊢
 rw [← h4,List.take_append_of_le_length (by omega),List.drop_append_of_le_length (by omega),List.append_assoc,List.append_assoc]
theorem flat_fit1 {f:Nat→List Value} {sz m k o:Nat} {sp:List Value} (hf:∀ k,(f k).length=sz) (hk:k<m) (ho:o=0+k*sz):o+sz≤(flat f m++sp).toArray.size:=by
 have hkm:k*sz+sz≤m*sz:=by have:=Nat.mul_le_mul_right sz (show k+1≤m from hk); rwa [Nat.succ_mul] at this
 rw [List.size_toArray,List.length_append,flat_len hf]
 omega
end Sy
end
section
namespace Cu
open Go.RowKit Sy
def sec5 (z:Int) (x:Nat):List Value:=.int .i64 z::fws x
section
variable (At:Nat→Int) (sx:Nat→Nat) (n:Nat→Nat) (X Y:Nat→Nat→Nat) (I:Nat→Nat→Bool)
def fitI (i:Nat):Bool:=decide (0≤At i) && (decide (At i<(n i:Int)) && openB (sx i) (X i (At i).toNat) (Y i (At i).toNat) (I i (At i).toNat))
def fitB (NS NR:Nat):Bool:=decide (NS=NR) && (List.range NR).all (fitI At sx n X Y I)
end
section
variable {At:Nat→Int} {sx:Nat→Nat} {n:Nat→Nat} {X Y:Nat→Nat→Nat} {I:Nat→Nat→Bool} {NS NR k q:Nat}
theorem fit_low (h:At k<0):fitI At sx n X Y I k=false:=by unfold fitI; rw [decide_eq_false (by omega:¬ 0≤At k)]; rfl
theorem fit_high (h:At k ≥ ((n k:Nat):Int)):fitI At sx n X Y I k=false:=by unfold fitI; rw [decide_eq_false (by omega:¬ At k<(n k:Int)),Bool.false_and,Bool.and_false]
theorem fit_op (h1:¬ At k<0) (h2:¬ At k ≥ ((n k:Nat):Int)) (hq:At k=(q:Int)):fitI At sx n X Y I k=openB (sx k) (X k q) (Y k q) (I k q):=by
 unfold fitI
 rw [decide_eq_true (by omega:0≤At k),decide_eq_true (by omega:At k<(n k:Int)),hq]
 rfl
theorem fitB_len (h:¬ NS=NR):fitB At sx n X Y I NS NR=false:=by unfold fitB; rw [decide_eq_false h]; rfl
theorem fitB_at (hk:k<NR) (h:fitI At sx n X Y I k=false):fitB At sx n X Y I NS NR=false:=by
 unfold fitB
 rw [show (List.range NR).all (fitI At sx n X Y I)=false from List.all_eq_false.2 ⟨k,List.mem_range.2 hk,by rw [h]; decide⟩,Bool.and_false]
theorem fitB_all (h1:NS=NR) (h:∀ j,j<NR→fitI At sx n X Y I j=true):fitB At sx n X Y I NS NR=true:=by
 unfold fitB
 rw [decide_eq_true h1,List.all_eq_true.2 λj hj=>h j (List.mem_range.1 hj)]
 rfl
end
set_option maxHeartbeats 4000000 in
set_option maxRecDepth 100000 in
theorem fit_any (w:World) (S:Option Addr) (NS cS:Nat) (At:Nat→Int) (sx:Nat→Nat) (hsx:∀ i,sx i<K4) (hNS:NS≤4611686018427387904) (hls:Lst w 5 S NS (λi=>sec5 (At i) (sx i))) (R:Option Addr) (NR cR:Nat) (a:Nat→Option Addr) (n c:Nat→Nat) (X Y:Nat→Nat→Nat) (I:Nat→Nat→Bool) (hX:∀ i k,X i k<K4) (hY:∀ i k,Y i k<K4) (hNR:NR≤4611686018427387904) (hn:∀ i,n i≤4611686018427387904) (hlr:Lst w 1 R NR (λi=>[.slice (a i) (n i) (c i)])) (hlk:∀ i,i<NR→Lst w 9 (a i) (n i) (λk=>pml (X i k) (Y i k) (I i k))):Calls Tryz.prog 45 #[.slice S NS cS,.slice R NR cR] w (Gets w (.bool (fitB At sx n X Y I NS NR))):=by
 have hls0:=hls
 obtain ⟨gS,oS,hS⟩:=hls
 have hlr0:=hlr
 obtain ⟨gR,oR,hR⟩:=hlr
 refine Sy.enter (args:=[.slice S NS cS,.slice R NR cR]) Tryz.func45 rfl kL ?_
 refine sC ?_
 refine sP (.bool false) ?_
 refine sG<|Sy.seq<|sC ?_
 refine sP (.slice S NS cS)<|sP (.int .i64 ((NS:Nat):Int))<|sP (.slice R NR cR)<|sP (.int .i64 ((NR:Nat):Int)) ?_
 obtain ⟨b1,hb1⟩:∃ z:Bool,z=decide (NS≠NR):=⟨_,rfl⟩
 refine sS (.bool b1) (Quiet.pure (exec_int .neq _ _ _ .i64 _ _ _ rfl rfl rfl (int_neq _ _ _ _ _ (by rw [hb1]; exact decide_eq_decide.2 (by omega))))) ?_
 refine sG ?_
 cases b1
 ·have lb1:¬ (NS≠NR):=of_decide_eq_false hb1.symm
  refine sU<|Sy.skip<|Sy.then_<|Sy.seq<|sC ?_
  refine sP (.slice R NR cR)<|sP (.int .i64 ((NR:Nat):Int))<|sP (.int .i64 0) ?_
  refine sG<|Sy.block ?_
  refine Sy.loopH NR (λk1=>∀ j,j<k1→fitI At sx n X Y I j=true) (λk1=>[(0,.slice S NS cS),(1,.slice R NR cR),(13,.slice R NR cR),(14,.int .i64 ((NR:Nat):Int)),(15,.int .i64 ((k1:Nat):Int))]) (λk1=>[]) [] (M:=[]) (λj hj=>absurd hj (Nat.not_lt_zero _)) (all_cons kR (all_cons kR (all_cons kR (all_cons kR (all_cons kR all_nil))))) kR rfl (λk1 hk1 hh=>?_)
  have hh1:=hh
  refine sC ?_
  obtain ⟨b2,hb2⟩:∃ z:Bool,z=decide (k1<NR):=⟨_,rfl⟩
  refine sS (.bool b2) (Quiet.pure (exec_int .lss _ _ _ .i64 _ _ _ rfl rfl rfl (int_lss _ _ _ _ _ (by rw [hb2]; exact decide_eq_decide.2 (by omega))))) ?_
  refine sG<|Sy.seq ?_
  cases b2
  ·have lb2:¬ (k1<NR):=of_decide_eq_false hb2.symm
   refine sU<|Sy.exit<|Sy.then_exit<|Sy.then_exit ?_
   obtain rfl:NR=k1:=by omega
   refine Sy.in_exit<|sB ?_
   refine sP (.bool true) ?_
   refine sG<|Sy.ret ?_
   rw [show (.bool (fitB At sx n X Y I NS NR):Value)=.bool true from by rw [fitB_all (by omega) (λj hj=>hh1 j (by omega))]]
   exact rV (.bool true) rfl
  ·have lb2:k1<NR:=of_decide_eq_true hb2.symm
   refine sT<|Sy.skip<|Sy.then_<|Sy.seq<|Sy.block<|sC ?_
   refine sP (.int .i64 ((k1:Nat):Int))<|sS (.pointer (some ⟨gR,oR+k1*1,none⟩)) (Quiet.pure (exec_atO 25 _ _ _ R gR oR NR cR k1 1 .i64 (hR (by omega)).1 rfl rfl rfl Tryz.underlying25 kF (by omega)))<|sS (.slice (a k1) (n k1) (c k1)) (Quiet.thereOne gR (oR+k1*1) 45 _ _ rfl kR (hR (by omega)).2.1 _ (range_one ((hR (by omega)).2.2 k1 (by omega)) 0 rfl) Tryz.underlying45 rfl)<|sP (.int .i64 ((k1:Nat):Int))<|sP (.slice (a k1) (n k1) (c k1)) ?_
   refine sA ?_
   refine sP (.slice S NS cS)<|sP (.int .i64 ((k1:Nat):Int))<|sS (.pointer (some ⟨gS,oS+k1*5,none⟩)) (Quiet.pure (exec_atO 26 _ _ _ S gS oS NS cS k1 5 .i64 (hS (by omega)).1 rfl rfl rfl Tryz.underlying26 kF (by omega)))<|sP (.pointer (some ⟨gS,oS+k1*5+0,none⟩))<|sS (.int .i64 (At k1)) (Quiet.thereOne gS (oS+k1*5+0) 3 _ _ rfl kR (hS (by omega)).2.1 _ (range_one ((hS (by omega)).2.2 k1 (by omega)) 0 rfl) Tryz.underlying3 rfl)<|sP (.int .i64 (At k1)) ?_
   refine sH (λj=>false) ?_
   refine sZ 0 rfl (.int .i64 (At k1)) ?_
   obtain ⟨b3,hb3⟩:∃ z:Bool,z=decide ((At k1)<0):=⟨_,rfl⟩
   refine sD 1 rfl (.bool b3) (Quiet.pure (exec_int .lss _ _ _ .i64 _ _ _ rfl rfl rfl (int_lss _ _ _ _ _ hb3.symm)))<|sZ 2 rfl (.bool b3) ?_
   cases b3
   ·have lb3:¬ ((At k1)<0):=of_decide_eq_false hb3.symm
    refine sZ 3 rfl (.int .i64 (At k1))<|sZ 4 rfl (.slice (a k1) (n k1) (c k1))<|sZ 5 rfl (.int .i64 (((n k1):Nat):Int)) ?_
    obtain ⟨b4,hb4⟩:∃ z:Bool,z=decide ((At k1) ≥ (((n k1):Nat):Int)):=⟨_,rfl⟩
    refine sD 6 rfl (.bool b4) (Quiet.pure (exec_int .geq _ _ _ .i64 _ _ _ rfl rfl rfl (int_geq _ _ _ _ _ hb4.symm)))<|sZ 7 rfl (.bool b4)<|sZ 8 rfl (.bool b4) ?_
    cases b4
    ·have lb4:¬ ((At k1) ≥ (((n k1):Nat):Int)):=of_decide_eq_false hb4.symm
     refine sZ 9 rfl (.slice S NS cS)<|sZ 10 rfl (.int .i64 ((k1:Nat):Int))<|sD 11 rfl (.pointer (some ⟨gS,oS+k1*5,none⟩)) (Quiet.pure (exec_atO 26 _ _ _ S gS oS NS cS k1 5 .i64 (hS (by omega)).1 rfl rfl rfl Tryz.underlying26 kF (by omega)))<|sZ 12 rfl (.pointer (some ⟨gS,oS+k1*5+1,none⟩))<|sD 13 rfl (fv (sx k1)) (Quiet.there gS (oS+k1*5+1) 4 42 (fws (sx k1)) _ _ rfl kR (hS (by omega)).2.1 (range_sub ((hS (by omega)).2.2 k1 (by omega)) 1 rfl) Tryz.underlying42 rfl kR rfl _ rfl)<|sZ 14 rfl (.slice (a k1) (n k1) (c k1))<|sZ 15 rfl (.int .i64 (At k1)) ?_
     obtain ⟨gK,oK,hT⟩:=hlk k1 (by omega)
     obtain ⟨q1,hq1⟩:∃ q:Nat,(At k1)=(q:Int):=⟨((At k1)).toNat,by omega⟩
     refine sD 16 rfl (.pointer (some ⟨gK,oK+q1*9,none⟩)) (Quiet.pure (exec_atO 45 _ _ _ (a k1) gK oK (n k1) (c k1) q1 9 .i64 (hT (by omega)).1 rfl rfl (show Value.int .i64 (At k1)=.int .i64 ((q1:Nat):Int) from by rw [hq1]) Tryz.underlying45 kF (by omega)))<|sD 17 rfl (pv (X k1 q1) (Y k1 q1) (I k1 q1)) (Quiet.there gK (oK+q1*9) 9 48 (pml (X k1 q1) (Y k1 q1) (I k1 q1)) _ _ rfl kR (hT (by omega)).2.1 ((hT (by omega)).2.2 q1 (by omega)) Tryz.underlying48 rfl kR rfl _ rfl) ?_
     obtain ⟨b5,hb5⟩:∃ z:Bool,z=openB (sx k1) (X k1 q1) (Y k1 q1) (I k1 q1):=⟨_,rfl⟩
     refine sD 18 rfl (.bool b5) (qF 104 #[fv (sx k1),pv (X k1 q1) (Y k1 q1) (I k1 q1)] (λw=>by rw [hb5]; exact opens_any w _ _ _ _ (hsx k1) (hX k1 q1) (hY k1 q1))) ?_
     cases b5
     ·refine sZ 19 rfl (.bool true)<|sZ 20 rfl (.bool true) ?_
      refine sI ?_
      refine sT<|sC ?_
      refine sP (.bool false) ?_
      refine sG<|Sy.ret<|Sy.in_ret<|Sy.then_ret<|Sy.then_ret<|Sy.in_ret<|Sy.then_ret ?_
      rw [show (.bool (fitB At sx n X Y I NS NR):Value)=.bool false from by rw [fitB_at (by omega) ((fit_op lb3 lb4 hq1).trans hb5.symm)]]
      exact rV (.bool false) rfl
     ·refine sZ 19 rfl (.bool false)<|sZ 20 rfl (.bool false) ?_
      refine sI ?_
      refine sU<|Sy.skip<|Sy.in_<|Sy.then_<|Sy.region ?_
      refine sS (.int .i64 ((k1+1:Nat):Int)) (Quiet.pure (exec_int .add _ _ _ .i64 _ _ _ rfl rfl rfl (int_add _ _ _ _ _ ((wrap_i64 (by omega) (by omega)).trans (by omega)))))<|sP (.int .i64 ((k1+1:Nat):Int)) ?_
      refine Sy.nil ?_
      exact Sy.againH [] (M:=[]) (by omega) (λj hj=>(Nat.lt_succ_iff_lt_or_eq.1 hj).elim (hh1 j) (λh=>by rw [h]; exact (fit_op lb3 lb4 hq1).trans hb5.symm)) (all_cons kR (all_cons kR (all_cons kR (all_cons kR (all_cons kR all_nil))))) kR rfl
    ·have lb4:(At k1) ≥ (((n k1):Nat):Int):=of_decide_eq_true hb4.symm
     refine sQ 9 rfl<|sQ 10 rfl<|sQ 11 rfl<|sQ 12 rfl<|sQ 13 rfl<|sQ 14 rfl<|sQ 15 rfl<|sQ 16 rfl ?_
     refine sQ 17 rfl<|sQ 18 rfl<|sQ 19 rfl<|sZ 20 rfl (.bool true) ?_
     refine sI ?_
     refine sT<|sC ?_
     refine sP (.bool false) ?_
     refine sG<|Sy.ret<|Sy.in_ret<|Sy.then_ret<|Sy.then_ret<|Sy.in_ret<|Sy.then_ret ?_
     rw [show (.bool (fitB At sx n X Y I NS NR):Value)=.bool false from by rw [fitB_at (by omega) (fit_high lb4)]]
     exact rV (.bool false) rfl
   ·have lb3:(At k1)<0:=of_decide_eq_true hb3.symm
    refine sQ 3 rfl<|sQ 4 rfl<|sQ 5 rfl<|sQ 6 rfl<|sZ 7 rfl (.bool true)<|sZ 8 rfl (.bool true)<|sQ 9 rfl<|sQ 10 rfl ?_
    refine sQ 11 rfl<|sQ 12 rfl<|sQ 13 rfl<|sQ 14 rfl<|sQ 15 rfl<|sQ 16 rfl<|sQ 17 rfl<|sQ 18 rfl ?_
    refine sQ 19 rfl<|sZ 20 rfl (.bool true) ?_
    refine sI ?_
    refine sT<|sC ?_
    refine sP (.bool false) ?_
    refine sG<|Sy.ret<|Sy.in_ret<|Sy.then_ret<|Sy.then_ret<|Sy.in_ret<|Sy.then_ret ?_
    rw [show (.bool (fitB At sx n X Y I NS NR):Value)=.bool false from by rw [fitB_at (by omega) (fit_low lb3)]]
    exact rV (.bool false) rfl
 ·have lb1:NS≠NR:=of_decide_eq_true hb1.symm
  refine sT<|sC ?_
  refine sP (.bool false) ?_
  refine sG<|Sy.ret<|Sy.then_ret ?_
  rw [show (.bool (fitB At sx n X Y I NS NR):Value)=.bool false from by rw [fitB_len lb1]]
  exact rV (.bool false) rfl
end Cu
end
section
namespace Cu
open Go.RowKit Sy
section
variable (bm sd:List UInt8) (X Y:Nat→Nat→Nat) (I:Nat→Nat→Bool) (at_:Nat→Nat) (nk:Nat→Nat) (sx:Nat→Nat)
def sgX (i:Nat):List UInt8:=encS (evP (rgN bm sd i))
def sgL (i:Nat):List UInt8:=alX (rgF bm sd i) bm i (at_ i+1) (X i) (Y i) (I i) (sgX bm sd i) (nk i - (at_ i+1))
def sgEnds:Nat→List UInt8
 | 0=>[]
 | k+1=>sgEnds k++sgL bm sd X Y I at_ nk k
def sgD (NR:Nat):List UInt8:=rgT bm (sgEnds bm sd X Y I at_ nk NR)
def sgE (d:List UInt8) (i:Nat):Nat:=rgC bm (alX (rgF bm sd i) bm i 0 (X i) (Y i) (I i) d (at_ i)) i (at_ i)
def sgS (d:List UInt8) (i j:Nat):Nat:=if j=at_ i then Sc.subP (rgN bm sd i) (Sc.mulP (sgE bm sd X Y I at_ d i) (sx i)) else rgF bm sd i j
def sgK (d:List UInt8) (k i j:Nat):List Value:=fws (if i<k then sgS bm sd X Y I at_ sx d i j else rgF bm sd i j)
def sgF (d:List UInt8) (i j:Nat):List Value:=fws (sgS bm sd X Y I at_ sx d i j)
end
section
variable {bm sd:List UInt8} {X Y:Nat→Nat→Nat} {I:Nat→Nat→Bool} {at_:Nat→Nat} {nk:Nat→Nat} {sx:Nat→Nat} {d:List UInt8}
theorem sgX_len (i:Nat):(sgX bm sd i).length=33:=encS_length _
theorem alX_or {s:Nat→Nat} {i f k:Nat} {X Y:Nat→Nat} {I:Nat→Bool} {x:List UInt8} (h:x.length=33):(alX s bm i f X Y I x k).length=33:=by
 rcases Nat.eq_zero_or_pos k with h0 | h0
 ·rw [h0]; exact h
 ·exact alX_len h0
theorem sgL_len (i:Nat):(sgL bm sd X Y I at_ nk i).length=33:=alX_or (sgX_len i)
theorem sgEnds_len:∀ k,(sgEnds bm sd X Y I at_ nk k).length=33*k
 | 0=>rfl
 | k+1=>by
  show (sgEnds bm sd X Y I at_ nk k++_).length=_
  rw [List.length_append,sgEnds_len k,sgL_len]
  omega
theorem sgD_len (NR:Nat):(sgD bm sd X Y I at_ nk NR).length=32:=rgT_len _ _
theorem sgS_lt (i j:Nat):sgS bm sd X Y I at_ sx d i j<K4:=by
 unfold sgS
 split
 ·exact Sc.subP_lt _ _
 ·exact rgF_lt _ _ _ _
theorem sgK_zero:sgK bm sd X Y I at_ sx d 0=fkF bm sd:=by
 funext i j
 unfold sgK fkF
 rw [if_neg (Nat.not_lt_zero _)]
theorem sgK_at (k:Nat):sgK bm sd X Y I at_ sx d k k=λj=>fws (rgF bm sd k j):=by
 funext j
 unfold sgK
 rw [if_neg (Nat.lt_irrefl _)]
theorem sgK_ne {k i:Nat} (h:i≠k):sgK bm sd X Y I at_ sx d (k+1) i=sgK bm sd X Y I at_ sx d k i:=by
 funext j
 unfold sgK
 by_cases h1:i<k
 ·rw [if_pos h1,if_pos (by omega)]
 ·rw [if_neg h1,if_neg (by omega)]
theorem sgK_all {r:Nat→Slc} {e:TypeId} {NR:Nat} (h:RowsAre r e 4 (sgK bm sd X Y I at_ sx d NR) (cntR nk NR 0)):RowsAre r e 4 (sgF bm sd X Y I at_ sx d) (cntR nk NR 0):=λi=>by
 have q:=h i
 by_cases hi:i<NR
 ·have e:sgK bm sd X Y I at_ sx d NR i=sgF bm sd X Y I at_ sx d i:=by
   funext j
   unfold sgK sgF
   rw [if_pos hi]
  rwa [e] at q
 ·have e:cntR nk NR 0 i=0:=by unfold cntR; rw [if_neg hi]; split <;> rfl
  rw [e,List.range_zero,List.map_nil] at q ⊢
  exact q
theorem sgK_upd (k:Nat):(λj=>if j=at_ k then fws (Sc.subP (rgN bm sd k) (Sc.mulP (sgE bm sd X Y I at_ d k) (sx k))) else fws (rgF bm sd k j))=sgK bm sd X Y I at_ sx d (k+1) k:=by
 funext j
 unfold sgK sgS
 rw [if_pos (Nat.lt_succ_self k)]
 split <;> rfl
end
theorem AlR.tx {A:Option Addr} {n c M:Nat} {l:List UInt8} {v:Value} {Mq:Blocks} (h:AlR A n c M l v Mq) (hl:0<M→l.length=33) {w0:Base} (T0:Blocks) (h0:M=0→l.length=n∧n≤c∧c≤33∧∀ w L,St w0 w L→(∀ b∈T0,b∈L)→Sh.Src w A l) :
  ∃ (B:Option Addr) (k:Nat),v=.slice B (if M=0 then n else 33) k∧l.length=(if M=0 then n else 33)∧l.length≤k∧k≤33∧∀ w L,St w0 w L→(∀ b∈T0++Mq,b∈L)→Sh.Src w B l:=by
 rcases h with ⟨h1,rfl,rfl⟩ | ⟨h1,q,rfl,rfl⟩
 ·obtain ⟨a1,a2,a3,a4⟩:=h0 h1
  exact ⟨A,c,by rw [if_pos h1],by rw [if_pos h1,a1],by omega,a3,λw L hw hb=>a4 w L hw (λb h=>hb b (List.mem_append.2 (.inl h)))⟩
 ·have hne:¬ M=0:=by omega
  have hl:=hl h1
  exact ⟨_,33,by rw [if_neg hne],by rw [if_neg hne,hl],by omega,Nat.le_refl _,λw L hw hb=>Sh.Src.of_blk (hw.blk _ _ _ (hb _ (List.mem_append.2 (.inr (List.mem_singleton.2 rfl))))).2⟩
theorem sgL_tx {bm sd:List UInt8} {X Y:Nat→Nat→Nat} {I:Nat→Nat→Bool} {at_ nk:Nat→Nat} {q7 i:Nat} {v:Value} {Mq:Blocks} {w0:Base} (h:AlR (some ⟨q7,0,none⟩) 33 33 (nk i - (at_ i+1)) (sgL bm sd X Y I at_ nk i) v Mq) :
  ∃ (B:Option Addr) (k:Nat),v=.slice B 33 k∧(sgL bm sd X Y I at_ nk i).length=33∧(sgL bm sd X Y I at_ nk i).length≤k∧k≤33∧∀ w L,St w0 w L→(∀ b∈[(q7,191,((sgX bm sd i).map bv).toArray)]++Mq,b∈L)→Sh.Src w B (sgL bm sd X Y I at_ nk i):=by
 have q:=AlR.tx (w0:=w0) h (λ_=>sgL_len i) [(q7,191,((sgX bm sd i).map bv).toArray)] (λh0=>by
  have e:sgL bm sd X Y I at_ nk i=sgX bm sd i:=by
   unfold sgL
   rw [h0]
   rfl
  rw [e]
  exact ⟨sgX_len _,by decide,by decide,λv L hv hb=>Sh.Src.of_blk (hv.blk _ _ _ (hb _ (List.mem_singleton.2 rfl))).2⟩)
 rw [ite_self] at q
 exact q
theorem sg_put {z d:List UInt8} {W:Option Addr} {N c:Nat} (hz:z.length=32) (hd:d.length=32):setAll (sgc33 z W N c).toArray 0 (d.map bv).toArray.toList=(sgc33 d W N c).toArray:=by
 have h:=setAll_is (d.map bv) 0 (sgc33 z W N c).toArray (by rw [List.size_toArray,sg_len hz,List.length_map,hd]; decide)
 rw [show (d.map bv).toArray.toList=d.map bv from rfl,h]
 refine congrArg List.toArray ?_
 simp only [List.take_zero,List.nil_append,List.length_map,hd]
 unfold sgc33
 rw [List.drop_left' (by rw [List.length_map,hz])]
def SgGives (d:List UInt8) (f:Nat→Nat→List Value) (nk:Nat→Nat) (NR:Nat) (v:Value) (M:Blocks):Prop:=∃ g r,v=sgv33 d (some ⟨g,0,none⟩) NR NR∧M=(g,51,rowsC r NR)::rowsB r NR∧RowsAre r 42 4 f (cntR nk NR 0)
set_option maxHeartbeats 4000000 in
set_option maxRecDepth 100000 in
theorem signG_any (w:World) (R:Option Addr) (NR cR:Nat) (a:Nat→Option Addr) (nk ck:Nat→Nat) (X Y:Nat→Nat→Nat) (I:Nat→Nat→Bool) (hX:∀ i k,X i k<K4) (hY:∀ i k,Y i k<K4) (hNR:NR≤4611686018427387904) (hnk:∀ i,nk i≤4611686018427387904) (hlr:Lst w 1 R NR (λi=>[.slice (a i) (nk i) (ck i)])) (hlk:∀ i,i<NR→Lst w 9 (a i) (nk i) (λk=>pml (X i k) (Y i k) (I i k))) (hN32:NR≤32) (hn64:∀ i,i<NR→nk i≤64) (hn1:∀ i,i<NR→1≤nk i) (bm:List UInt8) (hbm:bm.length=32) (sd:List UInt8) (hsd:sd.length=32) (S:Option Addr) (cS:Nat) (at_:Nat→Nat) (sx:Nat→Nat) (hsx:∀ i,sx i<K4) (hls:Lst w 5 S NR (λi=>sec5 ((at_ i:Nat):Int) (sx i))) (hat:∀ i,i<NR→at_ i<nk i) (ht:Sh.TabAt w 1):Calls Tryz.prog 47 #[bndv R NR cR bm,.agg (sd.map bv).toArray,.slice S NR cS] w (GetsN w (SgGives (sgD bm sd X Y I at_ nk NR) (sgF bm sd X Y I at_ sx (sgD bm sd X Y I at_ nk NR)) nk NR)):=by
 have hlr0:=hlr
 obtain ⟨gR,oR,hR⟩:=hlr
 obtain ⟨gQ,oQ,hQ⟩:=hls
 refine Sy.enter (args:=[bndv R NR cR bm,.agg (sd.map bv).toArray,.slice S NR cS]) Tryz.func47 rfl kL ?_
 refine sC ?_
 refine sM 86 (bndc R NR cR bm).toArray (λg0=>?_)
 refine sM 23 (sd.map bv).toArray (λg1=>?_)
 refine sM 31 (sgc33 (List.replicate 32 (0:UInt8)) none 0 0).toArray (λg2=>?_)
 refine sA ?_
 refine sS (bndv R NR cR bm) (Quiet.load 0 g0 0 33 86 86 (bndc R NR cR bm).toArray _ _ rfl kR kR Tryz.underlying86 rfl kR _ (bnd_whole hbm) (bnd_size hbm))<|sS (.agg (sd.map bv).toArray) (Quiet.load 1 g1 0 32 23 23 (sd.map bv).toArray _ _ rfl kR kR Tryz.underlying23 rfl kR _ (key_whole sd hsd) (key_size sd hsd)) ?_
 refine Sy.callN kR 107 #[bndv R NR cR bm,.agg (sd.map bv).toArray] kF (GivesRows 51 42 4 (fkF bm sd) (cntR nk NR 0) NR) (λw hw=>fakesG_any w R NR cR a nk ck X Y I hX hY hNR hnk (hlr0.below hw.below) (λi hi=>(hlk i hi).below hw.below) hN32 hn64 bm hbm sd hsd (ht.below hw.below ht.lt)) (λvq Mq hR0=>?_)
 obtain ⟨gF,r0,rfl,rfl,hr0⟩:=hR0
 refine Sy.permS (M:=[(g0,86,(bndc R NR cR bm).toArray),(g1,23,(sd.map bv).toArray),(g2,31,(sgc33 (List.replicate 32 (0:UInt8)) none 0 0).toArray),(gF,51,(rowsC r0 NR))]++(rowsB r0 NR++(nilS.bl++[]))) (by show List.Perm _ ([(g0,86,(bndc R NR cR bm).toArray),(g1,23,(sd.map bv).toArray),(g2,31,(sgc33 (List.replicate 32 (0:UInt8)) none 0 0).toArray),(gF,51,(rowsC r0 NR))]++(rowsB r0 NR++[])); rw [List.append_nil]; exact List.Perm.refl _) ?_
 refine sP (sgv33 (List.replicate 32 (0:UInt8)) (some ⟨gF,0,none⟩) NR NR) ?_
 refine sM 31 (sgc33 (List.replicate 32 (0:UInt8)) none 0 0).toArray (λg3=>?_)
 refine Sy.movT ?_
 refine sW 4 g3 31 (sgc33 (List.replicate 32 (0:UInt8)) none 0 0).toArray (sgc33 (List.replicate 32 (0:UInt8)) (some ⟨gF,0,none⟩) NR NR).toArray (Writes.row 31 (sgc33 (List.replicate 32 (0:UInt8)) (some ⟨gF,0,none⟩) NR NR) 33 _ _ rfl kR kR kR (sg_len List.length_replicate) (by rw [List.size_toArray,sg_len List.length_replicate]) sg_one) ?_
 refine Sy.setT ?_
 refine sA ?_
 refine sP (.slice none 0 0) ?_
 refine sG<|Sy.seq<|sC ?_
 refine sP (.slice S NR cS)<|sP (.int .i64 ((NR:Nat):Int))<|sP (.int .i64 0) ?_
 refine sG<|Sy.block ?_
 refine Sy.loopT (Y:=Slc×Blocks×List Sh.Tx) NR (λk1 y1=>[(2,.slice S NR cS),(3,.pointer (some ⟨g0,0,none⟩)),(4,.pointer (some ⟨g1,0,none⟩)),(6,.pointer (some ⟨g2,0,none⟩)),(7,.pointer (some ⟨g3,0,none⟩)),(8,y1.1.v),(20,.slice S NR cS),(21,.int .i64 ((NR:Nat):Int)),(22,.int .i64 ((k1:Nat):Int))]) (λk1 y1=>[(g0,86,(bndc R NR cR bm).toArray),(g1,23,(sd.map bv).toArray),(g2,31,(sgc33 (List.replicate 32 (0:UInt8)) none 0 0).toArray),(gF,51,(rowsC r0 NR)),(g3,31,(sgc33 (List.replicate 32 (0:UInt8)) (some ⟨gF,0,none⟩) NR NR).toArray)]++(rowsB r0 NR++(y1.1.bl++y1.2.1))) (λk1 y1=>TxsIs (Base.of w) 24 y1.1 y1.2.1 y1.2.2∧Sh.cat y1.2.2=sgEnds bm sd X Y I at_ nk k1∧y1.2.2.length=k1) (nilS,[],[]) ⟨TxsIs.nil _ _,rfl,rfl⟩ (all_cons kR (all_cons kR (all_cons kR (all_cons kR (all_cons kR (all_cons kR (all_cons kR (all_cons kR (all_cons kR all_nil))))))))) (λw hw=>hw) (λk1 y1 hk1 hh1=>?_)
 refine sC ?_
 obtain ⟨b1,hb1⟩:∃ z:Bool,z=decide (k1<NR):=⟨_,rfl⟩
 refine sS (.bool b1) (Quiet.pure (exec_int .lss _ _ _ .i64 _ _ _ rfl rfl rfl (int_lss _ _ _ _ _ (by rw [hb1]; exact decide_eq_decide.2 (by omega))))) ?_
 refine sG<|Sy.seq ?_
 cases b1
 ·have lb1:¬ (k1<NR):=of_decide_eq_false hb1.symm
  refine sU<|Sy.exit<|Sy.then_exit<|Sy.then_exit ?_
  obtain rfl:NR=k1:=by omega
  refine Sy.in_exit<|sB ?_
  refine sS (bndv R NR cR bm) (Quiet.load 0 g0 0 33 86 86 (bndc R NR cR bm).toArray _ _ rfl kR kR Tryz.underlying86 rfl kR _ (bnd_whole hbm) (bnd_size hbm))<|sP (y1.1.v) ?_
  obtain ⟨d0,hd0⟩:∃ l,l=sgD bm sd X Y I at_ nk NR:=⟨_,rfl⟩
  have hdl:d0.length=32:=by rw [hd0]; exact sgD_len _
  refine sS (.agg (d0.map bv).toArray) (Quiet.callS 112 #[bndv R NR cR bm,y1.1.v] kF (λw hw=>by obtain ⟨Q,dd,hv,hc9,_,htx⟩:=hh1.1.texts; rw [hv,hd0]; have hel:=sgEnds_len (bm:=bm) (sd:=sd) (X:=X) (Y:=Y) (I:=I) (at_:=at_) (nk:=nk) NR; have q:=firstG_any w R NR cR bm hbm Q _ dd y1.2.2 (htx hw (λb hb=>List.mem_append.2 (.inr (List.mem_append.2 (.inr (List.mem_append.2 (.inl hb)))))) (λb hb=>List.mem_append.2 (.inr (List.mem_append.2 (.inr (List.mem_append.2 (.inr hb))))))) (hh1.1.ok w _ hw (λb hb=>List.mem_append.2 (.inr (List.mem_append.2 (.inr (List.mem_append.2 (.inr hb))))))) rfl hc9 (by omega) (by rw [hh1.2.1]; omega) (ht.below hw.below ht.lt); rw [hh1.2.1] at q; exact q))<|sP (.pointer (some ⟨g3,0,none⟩))<|sW 4 g3 31 (sgc33 (List.replicate 32 (0:UInt8)) (some ⟨gF,0,none⟩) NR NR).toArray (sgc33 d0 (some ⟨gF,0,none⟩) NR NR).toArray (Writes.store 0 23 (d0.map bv).toArray _ _ rfl kR kR (by rw [key_sz d0 hdl]; kernel_rfl) (by rw [key_sz d0 hdl,List.size_toArray,sg_len List.length_replicate]; decide) (key_one _) (sg_put List.length_replicate hdl)) ?_
  refine Sy.setT ?_
  refine sG<|Sy.seq<|sC ?_
  refine sP (.slice S NR cS)<|sP (.int .i64 ((NR:Nat):Int))<|sP (.int .i64 0) ?_
  refine sG<|Sy.block ?_
  refine Sy.loopT (Y:=Nat→Slc) NR (λk1 y1=>[(3,.pointer (some ⟨g0,0,none⟩)),(4,.pointer (some ⟨g1,0,none⟩)),(6,.pointer (some ⟨g2,0,none⟩)),(7,.pointer (some ⟨g3,0,none⟩)),(60,.slice S NR cS),(61,.int .i64 ((NR:Nat):Int)),(62,.int .i64 ((k1:Nat):Int))]) (λk1 y1=>[(g0,86,(bndc R NR cR bm).toArray),(g1,23,(sd.map bv).toArray),(g2,31,(sgc33 (List.replicate 32 (0:UInt8)) none 0 0).toArray),(gF,51,(rowsC y1 NR)),(g3,31,(sgc33 d0 (some ⟨gF,0,none⟩) NR NR).toArray)]++(rowsB y1 NR++[])) (λk1 y1=>RowsAre y1 42 4 (sgK bm sd X Y I at_ sx d0 k1) (cntR nk NR 0)) r0 (by rw [sgK_zero]; exact hr0) (all_cons kR (all_cons kR (all_cons kR (all_cons kR (all_cons kR (all_cons kR (all_cons kR all_nil))))))) (λw hw=>(hw.less ((List.Sublist.refl _).append ((List.Sublist.refl _).append (List.nil_sublist _))))) (λk1 y1 hk1 hh1=>?_)
  refine sC ?_
  obtain ⟨b2,hb2⟩:∃ z:Bool,z=decide (k1<NR):=⟨_,rfl⟩
  refine sS (.bool b2) (Quiet.pure (exec_int .lss _ _ _ .i64 _ _ _ rfl rfl rfl (int_lss _ _ _ _ _ (by rw [hb2]; exact decide_eq_decide.2 (by omega))))) ?_
  refine sG<|Sy.seq ?_
  cases b2
  ·have lb2:¬ (k1<NR):=of_decide_eq_false hb2.symm
   refine sU<|Sy.exit<|Sy.then_exit<|Sy.then_exit ?_
   obtain rfl:NR=k1:=by omega
   refine Sy.in_exit<|sB ?_
   refine sS (sgv33 d0 (some ⟨gF,0,none⟩) NR NR) (Quiet.load 4 g3 0 33 31 31 (sgc33 d0 (some ⟨gF,0,none⟩) NR NR).toArray _ _ rfl kR kR Tryz.underlying31 rfl kR _ (sg_whole hdl) (sg_fit hdl))<|sW 2 g2 31 (sgc33 (List.replicate 32 (0:UInt8)) none 0 0).toArray (sgc33 d0 (some ⟨gF,0,none⟩) NR NR).toArray (Writes.row 31 (sgc33 d0 (some ⟨gF,0,none⟩) NR NR) 33 _ _ rfl kR kR kR (sg_len hdl) (by rw [List.size_toArray,sg_len List.length_replicate]) sg_one) ?_
   refine Sy.setT ?_
   refine sG<|Sy.ret ?_
   exact retGM ((gF,51,rowsC y1 NR)::rowsB y1 NR) rfl (v:=sgv33 d0 (some ⟨gF,0,none⟩) NR NR) (.inl (Res.cell (ty':=31) g2 2 (sgc33 d0 (some ⟨gF,0,none⟩) NR NR).toArray _ kR kR Tryz.underlying31 rfl (by rw [List.size_toArray,sg_len hdl]; kernel_rfl) rfl)) (λw hw=>by simpa using St.pick (pre:=[(g0,86,(bndc R NR cR bm).toArray),(g1,23,(sd.map bv).toArray),(g2,31,(sgc33 d0 (some ⟨gF,0,none⟩) NR NR).toArray),(gF,51,(rowsC y1 NR)),(g3,31,(sgc33 d0 (some ⟨gF,0,none⟩) NR NR).toArray)]) (M:=[(gF,51,rowsC y1 NR)]) [3] (by decide) kR hw) ⟨gF,y1,by rw [hd0],rfl,by rw [← hd0]; exact sgK_all hh1⟩
  ·have lb2:k1<NR:=of_decide_eq_true hb2.symm
   have hnk1:=hn64 k1 lb2
   have hat1:=hat k1 lb2
   obtain ⟨gk,ck2,sp,hkv,hkb,hk1s,hk2s,hk3s⟩:=(show (y1 k1).Is _ _ _ from hh1 k1).open (by rw [cntR_all lb2]; omega)
   rw [cntR_all lb2] at hkv hkb hk1s hk2s
   rw [sgK_at] at hkb
   obtain ⟨fR,hfR⟩:∃ f:Nat→List Value,f=λj=>fws (rgF bm sd k1 j):=⟨_,rfl⟩
   rw [← hfR] at hkb
   have hf4:∀ j,(fR j).length=4:=λj=>by rw [hfR]; rfl
   refine Sy.permC (Sy.out1 y1 lb2 hkb) ?_
   refine sT<|Sy.skip<|Sy.then_<|Sy.seq<|Sy.block<|sC ?_
   refine sP (.int .i64 ((k1:Nat):Int))<|sS (.pointer (some ⟨gQ,oQ+k1*5,none⟩)) (Quiet.pure (exec_atO 26 _ _ _ S gQ oQ NR cS k1 5 .i64 (hQ (by omega)).1 rfl rfl rfl Tryz.underlying26 kF (by omega)))<|sS (.agg (sec5 (((at_ k1):Nat):Int) (sx k1)).toArray) (Quiet.there gQ (oQ+k1*5) 5 44 (sec5 ((at_ k1:Nat):Int) (sx k1)) _ _ rfl kR (hQ (by omega)).2.1 ((hQ (by omega)).2.2 k1 (by omega)) Tryz.underlying44 rfl kR rfl _ rfl) ?_
   refine sM 44 (sec5 ((0:Nat):Int) 0).toArray (λg4=>?_)
   refine Sy.movT ?_
   refine sP (.int .i64 ((k1:Nat):Int))<|sW 6 g4 44 (sec5 ((0:Nat):Int) 0).toArray (sec5 (((at_ k1):Nat):Int) (sx k1)).toArray (Writes.row 44 (sec5 (((at_ k1):Nat):Int) (sx k1)) 5 _ _ rfl kR kR kR rfl kR (λu hu=>by rcases List.mem_cons.1 hu with rfl | hu; exact rfl; exact fws_one _ u hu)) ?_
   refine Sy.setT ?_
   refine sH (λj=>false) ?_
   refine sD 0 rfl (bndv R NR cR bm) (Quiet.load 0 g0 0 33 86 86 (bndc R NR cR bm).toArray _ _ rfl kR kR Tryz.underlying86 rfl kR _ (bnd_whole hbm) (bnd_size hbm))<|sZ 1 rfl (.pointer (some ⟨g3,0,none⟩))<|sZ 2 rfl (.slice (some ⟨g3,0,none⟩) 32 32)<|sZ 3 rfl (.pointer (some ⟨g3,32,none⟩))<|sD 4 rfl (.slice (some ⟨gF,0,none⟩) NR NR) (Quiet.cell 4 g3 32 31 29 (sgc33 d0 (some ⟨gF,0,none⟩) NR NR).toArray _ _ rfl kR kR Tryz.underlying29 rfl _ (sg_at hdl))<|sZ 5 rfl (.int .i64 ((k1:Nat):Int))<|sD 6 rfl (.pointer (some ⟨gF,0+k1*1,none⟩)) (Quiet.pure (exec_at 29 _ _ _ gF 0 NR NR k1 1 .i64 rfl rfl rfl Tryz.underlying29 kF (by omega)))<|sD 7 rfl (.slice (some ⟨gk,0,none⟩) (nk k1) ck2) (Quiet.cell 3 gF (0+k1*1) 51 51 (rowsC y1 NR) _ _ rfl kR kR Tryz.underlying51 rfl _ ((rowsC_get (by omega) rfl).trans (congrArg some hkv))) ?_
   refine sZ 8 rfl (.int .i64 ((k1:Nat):Int))<|sZ 9 rfl (.pointer (some ⟨g4,0,none⟩))<|sD 10 rfl (.int .i64 (((at_ k1):Nat):Int)) (qC 6 g4 0 44 3 (sec5 (((at_ k1):Nat):Int) (sx k1)).toArray rfl Tryz.underlying3) ?_
   refine Sy.callND 11 rfl kR kR 111 #[bndv R NR cR bm,.slice (some ⟨g3,0,none⟩) 32 32,.slice (some ⟨gk,0,none⟩) (nk k1) ck2,.int .i64 ((k1:Nat):Int),.int .i64 0,.int .i64 (((at_ k1):Nat):Int)] kF (AlR (some ⟨g3,0,none⟩) 32 32 (at_ k1) (alX (rgF bm sd k1) bm k1 0 (X k1) (Y k1) (I k1) d0 (at_ k1))) (λw hw=>by have q:=alongG_any w R NR cR a nk ck X Y I hX hY hNR hnk (hlr0.below hw.below) (λi hi=>(hlk i hi).below hw.below) bm hbm (some ⟨g3,0,none⟩) d0 32 32 hdl (by decide) (by decide) (by decide) (sg_src (hw.get (i:=4) rfl)) (some ⟨gk,0,none⟩) (nk k1) ck2 (rgF bm sd k1) (λ_=>rgF_lt _ _ _ _) (by rw [← hfR]; exact row_lst hf4 hw (List.mem_append.2 (.inl (List.mem_of_getElem? (i:=5) rfl)))) k1 0 (at_ k1) (by omega) (by omega) (by omega) (by omega) (by omega) (ht.below hw.below ht.lt); rw [Nat.zero_add] at q; exact q) (λvq Mq hR0=>?_)
   obtain ⟨xA,xk,hxv,hxl,hxk,hx33,hxs⟩:=AlR.tx (w0:=Base.of w) hR0 (λh=>alX_len h) [(g3,31,(sgc33 d0 (some ⟨gF,0,none⟩) NR NR).toArray)] (λh=>by rw [h]; exact ⟨hdl,by decide,by decide,λv L hv hb=>sg_src (hv.blk _ _ _ (hb _ (List.mem_singleton.2 rfl))).2⟩)
   obtain ⟨xn,hxn⟩:∃ k,k=(if at_ k1=0 then 32 else 33):=⟨_,rfl⟩
   rw [← hxn] at hxl hxv
   subst hxv
   refine Sy.permD Sy.end_perm ?_
   refine sZ 12 rfl (.slice xA xn xk) ?_
   refine sE ?_
   refine sB ?_
   refine sS (bndv R NR cR bm) (Quiet.load 0 g0 0 33 86 86 (bndc R NR cR bm).toArray _ _ rfl kR kR Tryz.underlying86 rfl kR _ (bnd_whole hbm) (bnd_size hbm))<|sP (.slice xA xn xk)<|sP (.int .i64 ((k1:Nat):Int))<|sP (.pointer (some ⟨g4,0,none⟩))<|sS (.int .i64 (((at_ k1):Nat):Int)) (qC 6 g4 0 44 3 (sec5 (((at_ k1):Nat):Int) (sx k1)).toArray rfl Tryz.underlying3) ?_
   obtain ⟨ek,hek⟩:∃ k,k=sgE bm sd X Y I at_ d0 k1:=⟨_,rfl⟩
   refine sS (fv ek) (Quiet.callS 113 #[bndv R NR cR bm,.slice xA xn xk,.int .i64 ((k1:Nat):Int),.int .i64 (((at_ k1):Nat):Int)] kF (λw hw=>by rw [hek]; exact chalG_any w R NR cR bm hbm xA _ xn xk hxl (by omega) (by omega) (by omega) (hxs w _ hw (λb hb=>(List.mem_append.1 hb).elim (λh=>List.mem_append.2 (.inl (by rw [List.mem_singleton.1 h]; exact List.mem_of_getElem? (i:=4) rfl))) (λh=>List.mem_append.2 (.inr (List.mem_append.2 (.inr (List.mem_append.2 (.inr h)))))))) k1 (at_ k1) (by omega) (by omega) (ht.below hw.below ht.lt))) ?_
   refine sM 42 (fcs 0) (λg5=>?_)
   refine Sy.movT ?_
   refine sW 7 g5 42 (fcs 0) (fcs ek) (wS 0 42 (fcs ek) rfl) ?_
   refine Sy.setT ?_
   refine sG ?_
   refine Sy.regionD (λj=>j == 17) kR ?_
   refine sZ 0 rfl (.pointer (some ⟨g3,32,none⟩))<|sD 1 rfl (.slice (some ⟨gF,0,none⟩) NR NR) (Quiet.cell 4 g3 32 31 29 (sgc33 d0 (some ⟨gF,0,none⟩) NR NR).toArray _ _ rfl kR kR Tryz.underlying29 rfl _ (sg_at hdl))<|sZ 2 rfl (.int .i64 ((k1:Nat):Int))<|sD 3 rfl (.pointer (some ⟨gF,0+k1*1,none⟩)) (Quiet.pure (exec_at 29 _ _ _ gF 0 NR NR k1 1 .i64 rfl rfl rfl Tryz.underlying29 kF (by omega)))<|sD 4 rfl (.slice (some ⟨gk,0,none⟩) (nk k1) ck2) (Quiet.cell 3 gF (0+k1*1) 51 51 (rowsC y1 NR) _ _ rfl kR kR Tryz.underlying51 rfl _ ((rowsC_get (by omega) rfl).trans (congrArg some hkv)))<|sZ 5 rfl (.pointer (some ⟨g4,0,none⟩))<|sD 6 rfl (.int .i64 (((at_ k1):Nat):Int)) (qC 6 g4 0 44 3 (sec5 (((at_ k1):Nat):Int) (sx k1)).toArray rfl Tryz.underlying3)<|sD 7 rfl (bndv R NR cR bm) (Quiet.load 0 g0 0 33 86 86 (bndc R NR cR bm).toArray _ _ rfl kR kR Tryz.underlying86 rfl kR _ (bnd_whole hbm) (bnd_size hbm)) ?_
   refine sD 8 rfl (.agg (sd.map bv).toArray) (Quiet.load 1 g1 0 32 23 23 (sd.map bv).toArray _ _ rfl kR kR Tryz.underlying23 rfl kR _ (key_whole sd hsd) (key_size sd hsd))<|sZ 9 rfl (.int .i64 ((k1:Nat):Int)) ?_
   obtain ⟨kn,hkn⟩:∃ k,k=rgN bm sd k1:=⟨_,rfl⟩
   refine sD 10 rfl (fv kn) (Quiet.callS 109 #[bndv R NR cR bm,.agg (sd.map bv).toArray,.int .i64 ((k1:Nat):Int)] kF (λw hw=>by rw [hkn]; exact nonceG_any w R NR cR bm hbm sd hsd k1 (by omega) (ht.below hw.below ht.lt)))<|sD 11 rfl (fv ek) (qL 7 g5 0 4 42 42 (fcs ek) rfl Tryz.underlying42)<|sZ 12 rfl (.pointer (some ⟨g4,1,none⟩))<|sD 13 rfl (fv (sx k1)) (qL 6 g4 1 4 44 42 (sec5 (((at_ k1):Nat):Int) (sx k1)).toArray rfl Tryz.underlying42) ?_
   obtain ⟨km,hkm⟩:∃ k,k=Sc.mulP ek (sx k1):=⟨_,rfl⟩
   refine sD 14 rfl (fv km) (qF 115 #[fv ek,fv (sx k1)] (λw=>by rw [hkm]; exact Sc.mulF_any w _ _ (by rw [hek]; exact rgC_lt _ _ _ _) (hsx _))) ?_
   obtain ⟨ks,hks⟩:∃ k,k=Sc.subP kn km:=⟨_,rfl⟩
   refine sD 15 rfl (fv ks) (qF 114 #[fv kn,fv km] (λw=>by rw [hks]; exact Sc.subF_any w _ _ (by rw [hkn]; exact rgN_lt _ _ _) (by rw [hkm]; exact Sc.mod_lt _)))<|sD 16 rfl (.pointer (some ⟨gk,0+(at_ k1)*4,none⟩)) (Quiet.pure (exec_at 51 _ _ _ gk 0 (nk k1) ck2 (at_ k1) 4 .i64 rfl rfl rfl Tryz.underlying51 kF (by omega)))<|sX 17 rfl 5 gk 42 (flat fR (nk k1)++sp).toArray (flat (λj=>if j=(at_ k1) then fws ks else fR j) (nk k1)++sp).toArray (Writes.store (0+(at_ k1)*4) 42 (fcs ks) _ _ rfl kR kR kR (flat_fit1 (k:=(at_ k1)) hf4 (by omega) rfl) kR (flat_put1 (k:=(at_ k1)) (v:=fws ks) hf4 rfl (by omega) rfl)) ?_
   refine Sy.setTD ?_
   refine sE ?_
   refine Sy.in_<|Sy.then_<|Sy.region ?_
   refine sS (.int .i64 ((k1+1:Nat):Int)) (Quiet.pure (exec_int .add _ _ _ .i64 _ _ _ rfl rfl rfl (int_add _ _ _ _ _ ((wrap_i64 (by omega) (by omega)).trans (by omega)))))<|sP (.int .i64 ((k1+1:Nat):Int)) ?_
   refine Sy.nil ?_
   exact Sy.againT (putR y1 k1 ⟨.slice (some ⟨gk,0,none⟩) (nk k1) ck2,[(gk,42,(flat (λj=>if j=(at_ k1) then fws ks else fR j) (nk k1)++sp).toArray)]⟩) (by omega) (hh1.upd (by rw [cntR_all (by omega), ← sgK_upd, ← hkn, ← hek, ← hkm, ← hks,hfR]; exact Slc.Is.close (λk=>by split <;> rfl) (λk=>by split <;> exact fws_one _) hk1s hk2s hk3s) (λi hi=>sgK_ne hi)) (all_cons kR (all_cons kR (all_cons kR (all_cons kR (all_cons kR (all_cons kR (all_cons kR all_nil))))))) (λw hw=>by rw [rowsC_same (by exact hkv.symm)]; exact St.back1 (by omega) (St.pick (pre:=[(g0,86,(bndc R NR cR bm).toArray),(g1,23,(sd.map bv).toArray),(g2,31,(sgc33 (List.replicate 32 (0:UInt8)) none 0 0).toArray),(gF,51,(rowsC y1 NR)),(g3,31,(sgc33 d0 (some ⟨gF,0,none⟩) NR NR).toArray),(gk,42,(flat (λj=>if j=(at_ k1) then fws ks else fR j) (nk k1)++sp).toArray),(g4,44,(sec5 (((at_ k1):Nat):Int) (sx k1)).toArray),(g5,42,(fcs ek))]) (M:=[(g0,86,(bndc R NR cR bm).toArray),(g1,23,(sd.map bv).toArray),(g2,31,(sgc33 (List.replicate 32 (0:UInt8)) none 0 0).toArray),(gF,51,(rowsC y1 NR)),(g3,31,(sgc33 d0 (some ⟨gF,0,none⟩) NR NR).toArray)]++[(gk,42,(flat (λj=>if j=(at_ k1) then fws ks else fR j) (nk k1)++sp).toArray)]) [0,1,2,3,4,5] (by decide) kR hw))
 ·have lb1:k1<NR:=of_decide_eq_true hb1.symm
  have hnk1:=hn64 k1 lb1
  have hat1:=hat k1 lb1
  obtain ⟨wA,wc,hwv,_,_,hwl⟩:=hr0.lst (cntR_all lb1) lb1
  refine sT<|Sy.skip<|Sy.then_<|Sy.seq<|Sy.block<|sC ?_
  refine sP (.int .i64 ((k1:Nat):Int))<|sS (.pointer (some ⟨gQ,oQ+k1*5,none⟩)) (Quiet.pure (exec_atO 26 _ _ _ S gQ oQ NR cS k1 5 .i64 (hQ (by omega)).1 rfl rfl rfl Tryz.underlying26 kF (by omega)))<|sS (.agg (sec5 (((at_ k1):Nat):Int) (sx k1)).toArray) (Quiet.there gQ (oQ+k1*5) 5 44 (sec5 ((at_ k1:Nat):Int) (sx k1)) _ _ rfl kR (hQ (by omega)).2.1 ((hQ (by omega)).2.2 k1 (by omega)) Tryz.underlying44 rfl kR rfl _ rfl) ?_
  refine sM 44 (sec5 ((0:Nat):Int) 0).toArray (λg6=>?_)
  refine Sy.movT ?_
  refine sP (.int .i64 ((k1:Nat):Int))<|sW 5 g6 44 (sec5 ((0:Nat):Int) 0).toArray (sec5 (((at_ k1):Nat):Int) (sx k1)).toArray (Writes.row 44 (sec5 (((at_ k1):Nat):Int) (sx k1)) 5 _ _ rfl kR kR kR rfl kR (λu hu=>by rcases List.mem_cons.1 hu with rfl | hu; exact rfl; exact fws_one _ u hu)) ?_
  refine Sy.setT ?_
  refine sA ?_
  refine sS (bndv R NR cR bm) (Quiet.load 0 g0 0 33 86 86 (bndc R NR cR bm).toArray _ _ rfl kR kR Tryz.underlying86 rfl kR _ (bnd_whole hbm) (bnd_size hbm))<|sS (.agg (sd.map bv).toArray) (Quiet.load 1 g1 0 32 23 23 (sd.map bv).toArray _ _ rfl kR kR Tryz.underlying23 rfl kR _ (key_whole sd hsd) (key_size sd hsd))<|sP (.int .i64 ((k1:Nat):Int))<|sS (fv (rgN bm sd k1)) (Quiet.callS 109 #[bndv R NR cR bm,.agg (sd.map bv).toArray,.int .i64 ((k1:Nat):Int)] kF (λw hw=>nonceG_any w R NR cR bm hbm sd hsd k1 (by omega) (ht.below hw.below ht.lt)))<|sS (pv gx.val gy.val false) (qF 110 #[] (base_c))<|sS (pv (pX (evP (rgN bm sd k1))) (pY (evP (rgN bm sd k1))) (pI (evP (rgN bm sd k1)))) (qF 108 #[fv (rgN bm sd k1),pv gx.val gy.val false] (λw=>mul_of7 (rgN_lt _ _ _) (lt4 _) (lt4 _) (show dec gx.val gy.val false=bP from dec_fin gx gy bP_on) rfl w)) ?_
  refine Sy.callN kR 105 #[pv (pX (evP (rgN bm sd k1))) (pY (evP (rgN bm sd k1))) (pI (evP (rgN bm sd k1)))] kF ((CodeIs (evP (rgN bm sd k1)))) (λw hw=>by have q:=code_any w (pX (evP (rgN bm sd k1))) (pY (evP (rgN bm sd k1))) (pI (evP (rgN bm sd k1))) (pX_lt _) (pY_lt _); rwa [dec_parts (evP_on _)] at q) (λvq Mq hR0=>?_)
  obtain ⟨q7,rfl,rfl⟩:=hR0
  refine Sy.movT ?_
  refine sP (.slice (some ⟨q7,0,none⟩) 33 33) ?_
  refine sG ?_
  refine Sy.regionD (λj=>j == 20) kR ?_
  refine sZ 0 rfl (y1.1.v) ?_
  refine Sy.stepDB 1 [18,19,20,21] rfl kR (λ_ _ _ _ h=>h) kR (bndv R NR cR bm) (Quiet.load 0 g0 0 33 86 86 (bndc R NR cR bm).toArray _ _ rfl kR kR Tryz.underlying86 rfl kR _ (bnd_whole hbm) (bnd_size hbm)) ?_
  refine Sy.stepDB 2 [18,19,20,21] rfl kR (λ_ _ _ _ h=>h) kR (.slice (some ⟨q7,0,none⟩) 33 33) qP ?_
  refine Sy.stepDB 3 [4,6,7,18,19,20,21] rfl kR (λ_ _ _ _ h=>h) kR (.pointer (some ⟨g3,32,none⟩)) qP ?_
  refine Sy.stepDB 4 [6,7,18,19,20,21] rfl kR (λ_ _ _ _ h=>h) kR (.slice (some ⟨gF,0,none⟩) NR NR) (Quiet.cell 4 g3 32 31 29 (sgc33 (List.replicate 32 (0:UInt8)) (some ⟨gF,0,none⟩) NR NR).toArray _ _ rfl kR kR Tryz.underlying29 rfl _ (sg_at List.length_replicate)) ?_
  refine Sy.stepDB 5 [6,7,18,19,20,21] rfl kR (λ_ _ _ _ h=>h) kR (.int .i64 ((k1:Nat):Int)) qP ?_
  refine Sy.stepDB 6 [7,18,19,20,21] rfl kR (λ_ _ _ _ h=>h) kR (.pointer (some ⟨gF,0+k1*1,none⟩)) (Quiet.pure (exec_at 29 _ _ _ gF 0 NR NR k1 1 .i64 rfl rfl rfl Tryz.underlying29 kF (by omega))) ?_
  refine Sy.stepDB 7 [18,19,20,21] rfl kR (λ_ _ _ _ h=>h) kR (.slice wA (nk k1) wc) (Quiet.cell 3 gF (0+k1*1) 51 51 (rowsC r0 NR) _ _ rfl kR kR Tryz.underlying51 rfl _ ((rowsC_get (by omega) rfl).trans (congrArg some hwv))) ?_
  refine Sy.stepDB 8 [18,19,20,21] rfl kR (λ_ _ _ _ h=>h) kR (.int .i64 ((k1:Nat):Int)) qP ?_
  refine Sy.stepDB 9 [10,11,18,19,20,21] rfl kR (λ_ _ _ _ h=>h) kR (.pointer (some ⟨g6,0,none⟩)) qP ?_
  refine Sy.stepDB 10 [11,18,19,20,21] rfl kR (λ_ _ _ _ h=>h) kR (.int .i64 (((at_ k1):Nat):Int)) (qC 5 g6 0 44 3 (sec5 (((at_ k1):Nat):Int) (sx k1)).toArray rfl Tryz.underlying3) ?_
  refine Sy.stepDB 11 [18,19,20,21] rfl kR (λ_ _ _ _ h=>h) kR (.int .i64 (((at_ k1)+1:Nat):Int)) (Quiet.pure (exec_int .add _ _ _ .i64 _ _ _ rfl rfl rfl (int_add _ _ _ _ _ ((wrap_i64 (by omega) (by omega)).trans (by omega))))) ?_
  refine Sy.stepDB 12 [13,15,16,17,18,19,20,21] rfl kR (λ_ _ _ _ h=>h) kR (.pointer (some ⟨g3,32,none⟩)) qP ?_
  refine Sy.stepDB 13 [15,16,17,18,19,20,21] rfl kR (λ_ _ _ _ h=>h) kR (.slice (some ⟨gF,0,none⟩) NR NR) (Quiet.cell 4 g3 32 31 29 (sgc33 (List.replicate 32 (0:UInt8)) (some ⟨gF,0,none⟩) NR NR).toArray _ _ rfl kR kR Tryz.underlying29 rfl _ (sg_at List.length_replicate)) ?_
  refine Sy.stepDB 14 [15,16,17,18,19,20,21] rfl kR (λ_ _ _ _ h=>h) kR (.int .i64 ((k1:Nat):Int)) qP ?_
  refine Sy.stepDB 15 [16,17,18,19,20,21] rfl kR (λ_ _ _ _ h=>h) kR (.pointer (some ⟨gF,0+k1*1,none⟩)) (Quiet.pure (exec_at 29 _ _ _ gF 0 NR NR k1 1 .i64 rfl rfl rfl Tryz.underlying29 kF (by omega))) ?_
  refine Sy.stepDB 16 [17,18,19,20,21] rfl kR (λ_ _ _ _ h=>h) kR (.slice wA (nk k1) wc) (Quiet.cell 3 gF (0+k1*1) 51 51 (rowsC r0 NR) _ _ rfl kR kR Tryz.underlying51 rfl _ ((rowsC_get (by omega) rfl).trans (congrArg some hwv))) ?_
  refine Sy.stepDB 17 [18,19,20,21] rfl kR (λ_ _ _ _ h=>h) kR (.int .i64 (((nk k1):Nat):Int)) qP ?_
  refine Sy.callND 18 rfl kR kR 111 #[bndv R NR cR bm,.slice (some ⟨q7,0,none⟩) 33 33,.slice wA (nk k1) wc,.int .i64 ((k1:Nat):Int),.int .i64 (((at_ k1)+1:Nat):Int),.int .i64 (((nk k1):Nat):Int)] kF (AlR (some ⟨q7,0,none⟩) 33 33 (nk k1 - (at_ k1+1)) (sgL bm sd X Y I at_ nk k1)) (λw hw=>by have q:=alongG_any w R NR cR a nk ck X Y I hX hY hNR hnk (hlr0.below hw.below) (λi hi=>(hlk i hi).below hw.below) bm hbm (some ⟨q7,0,none⟩) (sgX bm sd k1) 33 33 (sgX_len _) (by decide) (by decide) (by decide) (Sh.Src.of_blk (hw.get (i:=6) rfl)) wA (nk k1) wc (rgF bm sd k1) (λ_=>rgF_lt _ _ _ _) (hwl hw (λb hb=>List.mem_append.2 (.inr (List.mem_append.2 (.inl hb))))) k1 (at_ k1+1) (nk k1 - (at_ k1+1)) (by omega) (by omega) (by omega) (by omega) (by omega) (ht.below hw.below ht.lt); rwa [show at_ k1+1+(nk k1 - (at_ k1+1))=nk k1 by omega] at q) (λvq Mq hR0=>?_)
  obtain ⟨xA,xk,rfl,hxl,hxk,hx33,hxs⟩:=sgL_tx (w0:=Base.of w) hR0
  refine Sy.permD Sy.end_perm3 ?_
  refine Sy.makeD 19 rfl kR kR 24 #[.slice xA 33 xk] (λg=>.slice (some ⟨g,0,none⟩) 1 1) kF (λg7=>?_)
  refine Sy.movTD ?_
  refine Sy.soleD 20 rfl (λQ1 hq1=>?_)
  refine Sy.permS Sy.rot_perm ?_
  refine Sy.appendR kR 95 24 _ _ 1 24 Tryz.underlying95 info_sl rfl rfl rfl rfl (by decide) _ _ rfl hh1.1.row kR [.slice xA 33 xk] rfl (one_sl _ _ _) 7 g7 24 kR kR (by rw [List.length_map,hh1.2.2]; omega) (by rw [List.length_map,hh1.2.2]; simp only [maxLen]; omega) (λr1 hr1=>?_)
  refine Sy.permS Sy.tor_perm ?_
  refine hq1 _ _ ?_
  refine Sy.anyOf [21] kR (by decide) (Sy.each1 ?_)
  refine Sy.oneQuiet rfl kR (r1.v) qP ?_
  refine sE ?_
  refine Sy.in_<|Sy.then_<|Sy.region ?_
  refine sS (.int .i64 ((k1+1:Nat):Int)) (Quiet.pure (exec_int .add _ _ _ .i64 _ _ _ rfl rfl rfl (int_add _ _ _ _ _ ((wrap_i64 (by omega) (by omega)).trans (by omega)))))<|sP (.int .i64 ((k1+1:Nat):Int)) ?_
  refine Sy.nil ?_
  exact Sy.againT ((r1,y1.2.1++(Mq++[(q7,191,((sgX bm sd k1).map bv).toArray)]),y1.2.2++[(⟨xA,sgL bm sd X Y I at_ nk k1,xk⟩:Sh.Tx)])) (by omega) (⟨hh1.1.add (⟨xA,sgL bm sd X Y I at_ nk k1,xk⟩:Sh.Tx) (Mq++[(q7,191,((sgX bm sd k1).map bv).toArray)]) hr1 (by unfold Sh.Tx.val; rw [show (sgL bm sd X Y I at_ nk k1).length=33 from hxl]) (λv L hv hb=>⟨hxs v L hv (λb h=>hb b ((List.mem_append.1 h).elim (λh=>List.mem_append.2 (.inr h)) (λh=>List.mem_append.2 (.inl h)))),hxk,by show xk≤9223372036854775807; omega⟩),by rw [cat_add,hh1.2.1]; rfl,by rw [List.length_append,hh1.2.2]; rfl⟩) (all_cons kR (all_cons kR (all_cons kR (all_cons kR (all_cons kR (all_cons kR (all_cons kR (all_cons kR (all_cons kR all_nil))))))))) (λw hw=>St.pick4 (pre:=[(g0,86,(bndc R NR cR bm).toArray),(g1,23,(sd.map bv).toArray),(g2,31,(sgc33 (List.replicate 32 (0:UInt8)) none 0 0).toArray),(gF,51,(rowsC r0 NR)),(g3,31,(sgc33 (List.replicate 32 (0:UInt8)) (some ⟨gF,0,none⟩) NR NR).toArray),(g6,44,(sec5 (((at_ k1):Nat):Int) (sx k1)).toArray),(q7,191,((sgX bm sd k1).map bv).toArray),(g7,24,#[.slice xA 33 xk])]) (M:=[(g0,86,(bndc R NR cR bm).toArray),(g1,23,(sd.map bv).toArray),(g2,31,(sgc33 (List.replicate 32 (0:UInt8)) none 0 0).toArray),(gF,51,(rowsC r0 NR)),(g3,31,(sgc33 (List.replicate 32 (0:UInt8)) (some ⟨gF,0,none⟩) NR NR).toArray)]) (N:=[(q7,191,((sgX bm sd k1).map bv).toArray)]) [0,1,2,3,4,6] (by decide) kR hw)
end Cu
end
section
namespace Sy
open Go.RowKit Go.ChangeShapes Go.WideShapes Go.MapKept Go.ChangeMaps Go.WideElems
open Go.WideMaps (KeyLaw ArrKey)
section
variable {P:Program} {w0:Base} {n:Nat} {Q:Exit→Act→World→Prop} {F:Slots} {L:Blocks} {ops:Array Oper} {o:Oper} {l:List Oper} {ex:Nat→Bool} {fuel:Nat} {listed:Array Bool}
end
section
variable {P:Program} {t k e:TypeId} {es:Array MapEntry} {clock:Nat} {ks:List Value}
open Classical in
end
end Sy
end
section
namespace Cu
open Go.RowKit Sy Go.ChangeShapes Go.WideShapes Go.MapKept Go.ChangeMaps Go.WideElems
open Go.WideMaps (KeyLaw ArrKey)
section
variable {m:List UInt8} {T:Int} {N M:Nat} {K:Nat→List UInt8} {Z:Nat→Int} {S:Nat→List UInt8}
end
end Cu
end
section
namespace Cu
open Go.RowKit Sy
set_option maxRecDepth 100000
set_option maxHeartbeats 4000000
end Cu
end
section
namespace Cu
open Go.RowKit Sy
set_option maxRecDepth 100000
set_option maxHeartbeats 4000000
end Cu
end
end Go.Proofs.YtmennpefjofhjaaGreatDoor
