/-
  Texts of ours.
-/
import Derived.Test.YtgemfpnlnipfnabGreatDoorBV6
set_option linter.unusedVariables false
set_option linter.unusedSimpArgs false
set_option maxRecDepth 100000
set_option maxHeartbeats 40000000
namespace Go.Proofs.YtgemfpnlnipfnabGreatDoor
section
namespace Sy
open Go.RowKit
section
variable {P:Program} {w0:Base} {n:Nat} {Q:Exit→Act→World→Prop} {F:AO} {L:AC} {ops:Array Oper} {o:Oper} {l:List Oper}
def From (w0:Base) (L:AC) (A:Option Addr) (news:List Value):Prop:=∀ w,St w0 w L→(news=[]∨∃ a,A=some a∧∀ j u,news[j]? = some u→w.cell? (a.add j)=some u)
theorem From.blk {i g f:Nat} {t:TypeId} {cs:Array Value} {news:List Value} (hL:L[i]? = some (g,t,cs)) (hn:(cs.toList.drop f).take news.length=news):From w0 L (some ⟨g,f,none⟩) news:=λw hw =>
 .inr ⟨_,rfl,λj u hj=>by
  rw [Bm]
  exact CJ (hw.get hL) hn j u hj⟩
theorem Qx (hg:Bv ops n F o=true) (ts e:TypeId) (inf:TypeInfo) (z:Value) (sz by_:Nat) (ht:P.underlying ts=some (.slice e)) (hinf:P.info? e=some inf) (hz:inf.zero=some z) (hs1:inf.size=sz) (hb1:inf.bytes=by_) (hzs:z.cells.size=sz) (h0:0<sz)
  (s x:Operand) (ho:o.op=.call { callee:=.builtin .append,args:=#[s,x],argTypes:=#[ts,ts] })
  (i g len cap:Nat) (old sp:List Value) (hs:evF F s=.slice (pA g) len cap) (hL:L[i]? = some (g,e,(old++sp).toArray)) (hlen:old.length=len*sz) (hsp:sp.length+len*sz=cap*sz) (hmax:cap≤maxLen)
  (A:Option Addr) (m c:Nat) (news:List Value) (hx:evF F x=.slice A m c) (hf:From w0 L A news) (hm:news.length=m*sz) (hmc:m≤c) (h1:∀ u∈news,u.oneCell'=true) (hsmall:(len+m)*by_≤140737488355328) (h63:len+m≤maxLen)
  (h:∀ (g' cap':Nat) (sp':List Value),sp'.length+(len+m)*sz=cap'*sz→len+m≤cap'→cap'≤maxLen→wpS P w0 n ops Q (Bo F o.dst (.slice (some ⟨g',0,none⟩) (len+m) cap')) (L.set i (g',e,(old++news++sp').toArray)) l):wpS P w0 n ops Q F L (o::l):=λa w ha hw=>by
 obtain ⟨k1,_,k3,_⟩:=AQ hg
 refine wpList_step λK hK=>?_
 rw [if_pos (ha.wanted k1)]
 have hb:=hw.get hL
 have hle:len≤cap:=Nat.le_of_mul_le_mul_right om h0
 have KT:∀ v' w',(Builtin.append_ #[ts,ts] o.type #[.slice (pA g) len cap,.slice A m c]).run P w=.ok v' w'→K (a.put o.dst v') w'→o.wp P a w K Q:=λv' w' hr hk=>by
  unfold Oper.wp
  rw [Ao hg ha]
  unfold execOp
  simp only [ho,resolve,invoke,builtin,Sem.run_bind,Sem.run_pure,Result.andThen_ok,List.map_toArray,List.map_cons,List.map_nil,hs,hx,hr]
  exact hk
 rcases hf w hw with rfl | ⟨ad,rfl,hn⟩
 ·have hm0:m=0:=by
   rcases Nat.eq_zero_or_pos m with h | h
   ·exact h
   ·have:=Nat.mul_pos h h0
    simp at hm
    omega
  subst hm0
  have hr:(Builtin.append_ #[ts,ts] o.type #[.slice (pA g) len cap,.slice A 0 c]).run P w=.ok (.slice (pA g) len cap) w:=by
   have hfc:(Builtin.firstCells inf.size 0 (.slice A 0 c)).run P w=.ok #[] w:=by
    cases A with
    | none=>simp [Builtin.firstCells,Sem.run_pure]
    | some a=>simpa using run_firstCells_some (P:=P) w inf.size 0 a 0 c [] (by simp) (λj u hj=>by cases hj)
   have hst:∀ a:Addr,(storeCells a []).run P w=.ok () w:=λa=>by simp [storeCells,Sem.run_pure]
   simp [Builtin.append_,run_underlying ht,sizeOf,typeInfo,hinf,hle,Builtin.lenOf,hfc,hst]
  refine KT _ w hr ?_
  have hset:L.set i (g,e,(old++[]++sp).toArray)=L:=by
   rw [List.append_nil]
   refine List.ext_getElem? λj=>?_
   rw [List.getElem?_set]
   by_cases e':i=j
   ·subst e'
    rw [if_pos U,if_pos (List.getElem?_eq_some_iff.1 hL).1,hL]
   ·rw [if_neg e']
  refine hK _ _ (h g cap sp (by simpa using hsp) om hmax _ _ (ha.put k3 _) ?_)
  rw [hset]
  exact hw
 ·have hown:w.ownsRow 0 e sz (.slice (pA g) len cap) len old:=⟨hlen,.inr ⟨g,cap,_,rfl,Nat.zero_le _,hb,hle,hmax,by rw [List.size_toArray,List.length_append]; omega,by show (old++sp).take _=old; rw [List.take_left' hlen]⟩⟩
  have last:∀ (w':World) (g' cap':Nat) (cur:Array Value),cur.size=cap'*sz→len+m≤cap'→cap'≤maxLen→cur.toList.take ((len+m)*sz)=old++news→St w0 w' (L.set i (g',e,cur))→K (a.put o.dst (.slice (some ⟨g',0,none⟩) (len+m) cap')) w':=λw' g' cap' cur h2 h2' h3 h4 h5=>by
   have hc:cur=(old++news++cur.toList.drop ((len+m)*sz)).toArray:=by
    rw [← h4,List.take_append_drop]
   rw [hc] at h5
   refine hK _ _ (h g' cap' _ ?_ h2' h3 _ _ (ha.put k3 _) h5)
   have h6:=Nat.mul_le_mul_right sz h2'
   rw [List.length_drop,Array.length_toList,h2]
   omega
  rcases Nat.lt_or_ge cap (len+m) with hlt | hge
  ·obtain ⟨v',w',hr,hrow,hgr⟩:=run_append_arg_grows (P:=P) w ts o.type e inf z sz by_ ht hinf hz hs1 hb1 hzs h0 ⟨g,0,none⟩ len cap old hlen (hown.cells (g:=g) rfl) ad m c news hm hn hlt h63 hsmall
   refine KT v' w' hr ?_
   rcases hrow.2 with ⟨rfl,h0'⟩ | ⟨g',cap',cur,rfl,q1,q2,q3,q4,q5,q6⟩
   ·omega
   ·exact last w' g' cap' cur q5 q3 q4 q6 (hw.setNew (⟨hgr.os,hgr.tape,hgr.output,hgr.size,λk hk=>hgr.block k hk (by simp)⟩) (List.getElem?_eq_some_iff.1 hL).1 q1 q2)
  ·obtain ⟨w',hr,hrow,hgr⟩:=run_append_own_spare (P:=P) w 0 ts o.type e inf sz ht hinf hs1 g len cap old hown ad m c news hm hn h1 hge
   refine KT _ w' hr ?_
   rcases hrow.2 with ⟨h0',_⟩ | ⟨g',cap',cur,hv,_,q2,q3,q4,q5,q6⟩
   ·cases h0'
   ·cases hv
    exact last w' g cap cur q5 q3 q4 q6 (hw.set hL hgr q2)
theorem KL (hg:Bv ops n F o=true) (ts e:TypeId) (inf:TypeInfo) (z:Value) (sz by_:Nat) (ht:P.underlying ts=some (.slice e)) (hinf:P.info? e=some inf) (hz:inf.zero=some z) (hs1:inf.size=sz) (hb1:inf.bytes=by_) (hzs:z.cells.size=sz) (h0:0<sz)
  (s x:Operand) (ho:o.op=.call { callee:=.builtin .append,args:=#[s,x],argTypes:=#[ts,ts] }) (hs:evF F s=.slice none 0 0)
  (A:Option Addr) (m c:Nat) (news:List Value) (hx:evF F x=.slice A m c) (hf:From w0 L A news) (hm:news.length=m*sz) (hm0:0<m) (h1:∀ u∈news,u.oneCell'=true) (hsmall:m*by_≤140737488355328) (h63:m≤maxLen)
  (h:∀ (g' cap':Nat) (sp':List Value),sp'.length+m*sz=cap'*sz→m≤cap'→cap'≤maxLen→wpS P w0 n ops Q (Bo F o.dst (.slice (some ⟨g',0,none⟩) m cap')) (L++[(g',e,(news++sp').toArray)]) l):wpS P w0 n ops Q F L (o::l):=λa w ha hw=>by
 obtain ⟨k1,_,k3,_⟩:=AQ hg
 refine wpList_step λK hK=>?_
 rw [if_pos (ha.wanted k1)]
 rcases hf w hw with rfl | ⟨ad,rfl,hn⟩
 ·have:=Nat.mul_pos hm0 h0
  simp at hm
  omega
 obtain ⟨v',w',hr,hrow,hgr,hnil⟩:=run_append_own (P:=P) w w.heap.size ts o.type e inf z sz by_ ht hinf hz hs1 hb1 hzs h0 (.slice none 0 0) 0 [] (World.ownsRow_nil w _ e sz) ad m c news hm hn h1 om (by rw [Nat.zero_add]; exact hsmall) (Nat.le_refl _)
 rcases hrow.2 with ⟨_,h0'⟩ | ⟨g',cap',cur,rfl,q1,q2,q3,q4,q5,q6⟩
 ·omega
 have q6':cur.toList.take (m*sz)=news:=by simpa using q6
 unfold Oper.wp
 rw [Ao hg ha]
 unfold execOp
 simp only [ho,resolve,invoke,builtin,Sem.run_bind,Sem.run_pure,Result.andThen_ok,List.map_toArray,List.map_cons,List.map_nil,hs,hx,hr]
 have hc:cur=(news++cur.toList.drop (m*sz)).toArray:=by rw [← q6',List.take_append_drop]
 rw [hc] at q2
 rw [Nat.zero_add] at q3 ⊢
 refine hK _ _ (h g' cap' _ ?_ q3 q4 _ _ (ha.put k3 _) (hw.add (⟨hgr.os,hgr.tape,hgr.output,hgr.size,λk hk=>hgr.block k hk (by simp [Value.ownBlock])⟩) q1 q2))
 have h6:=Nat.mul_le_mul_right sz q3
 rw [List.length_drop,Array.length_toList,q5]
 omega
theorem permC {c:Code} {M:AC} (p:L.Perm M) (h:wpC P w0 n Q F M c):wpC P w0 n Q F L c:=λa w ha hw=>h a w ha (hw.perm p)
theorem permS {M:AC} (p:L.Perm M) (h:wpS P w0 n ops Q F M l):wpS P w0 n ops Q F L l:=λa w ha hw=>h a w ha (hw.perm p)
end
structure Slc where
 v:Value
 bl:AC
structure Slc.Is (r:Slc) (e:TypeId) (sz:Nat) (xs:List (List Value)):Prop where
 len:∀ x∈xs,x.length=sz
 one:∀ x∈xs, ∀ u∈x,u.oneCell'=true
 row:(xs=[]∧r=⟨.slice none 0 0,[]⟩)∨∃ g cap sp,r=⟨.slice (pA g) xs.length cap,[(g,e,(xs.flatten++sp).toArray)]⟩∧sp.length+xs.length*sz=cap*sz∧xs.length≤cap∧cap≤maxLen
theorem Slc.Is.nil (e:TypeId) (sz:Nat):Slc.Is ⟨.slice none 0 0,[]⟩ e sz []:=⟨λ_ h=>(by cases h),λ_ h=>(by cases h),.inl ⟨rfl,rfl⟩⟩
theorem Es {sz:Nat}:∀ {xs:List (List Value)},(∀ x∈xs,x.length=sz)→xs.flatten.length=xs.length*sz
 | [],_=>by simp
 | x::xs,h=>by
  rw [List.flatten_cons,List.length_append,h x (List.mem_cons_self ..),Es λy hy=>h y (List.mem_cons_of_mem _ hy),List.length_cons,Nat.add_mul,Nat.one_mul,Nat.add_comm]
theorem Ns {sz:Nat}:∀ {xs:List (List Value)} (sp:List Value),(∀ x∈xs,x.length=sz)→∀ (j:Nat) (x:List Value),xs[j]? = some x→((xs.flatten++sp).drop (j*sz)).take sz=x
 | [],_,_,_,_,h=>by simp at h
 | y::xs,sp,h,0,x,hx=>by
  have hy:=h y (List.mem_cons_self ..)
  simp only [List.getElem?_cons_zero,Option.some.injEq] at hx
  subst hx
  rw [Nat.zero_mul,List.drop_zero,List.flatten_cons,List.append_assoc,List.take_append_of_le_length om,List.take_of_length_le om]
 | y::xs,sp,h,j+1,x,hx=>by
  have hy:=h y (List.mem_cons_self ..)
  rw [List.getElem?_cons_succ] at hx
  have ih:=Ns sp (λz hz=>h z (List.mem_cons_of_mem _ hz)) j x hx
  rw [List.flatten_cons,List.append_assoc,List.drop_append,hy,List.drop_of_length_le (by rw [hy,Nat.add_mul,Nat.one_mul]; omega),List.nil_append,Nat.add_mul,Nat.one_mul,Nat.add_sub_cancel]
  exact ih
theorem Slc.Is.out {r:Slc} {e:TypeId} {sz:Nat} {xs:List (List Value)} (h:r.Is e sz xs):∃ A c,r.v=.slice A xs.length c∧xs.length≤c∧c≤maxLen∧∀ {w0:Base} {w:World} {L:AC},St w0 w L→(∀ b∈r.bl,b∈L)→Lst w sz A xs.length (λi=>xs.getD i []):=by
 rcases h.row with ⟨rfl,rfl⟩ | ⟨g,cap,sp,rfl,h1,h2,h3⟩
 ·exact ⟨none,0,rfl,Nat.le_refl _,Nat.zero_le _,λ_ _=>⟨0,0,λhn=>absurd hn (Nat.lt_irrefl _)⟩⟩
 ·refine ⟨some ⟨g,0,none⟩,cap,rfl,h2,h3,λ{w0 w L} hw hb=>⟨g,0,λhn=>?_⟩⟩
  have hbk:=(hw.blk g e _ (hb _ (List.mem_singleton.2 U))).2
  refine ⟨rfl,hbk.lt,λj hj i v hi=>?_⟩
  have hx:xs[j]? = some (xs.getD j []):=by rw [List.getD_eq_getElem?_getD,List.getElem?_eq_getElem hj]; rfl
  have hl:=h.len _ (List.mem_of_getElem? hx)
  have hi':i<sz:=by rw [← hl]; exact (List.getElem?_eq_some_iff.1 hi).1
  refine (hbk.cell _).trans ?_
  have q:=Ns sp h.len j _ hx
  have hi:(xs.getD j [])[i]? = some v:=hi
  rw [← q,List.getElem?_take_of_lt hi',List.getElem?_drop] at hi
  rw [Nat.zero_add,List.getElem?_toArray]
  exact hi
section
variable {P:Program} {w0:Base} {n:Nat} {Q:Exit→Act→World→Prop} {F:AO} {pre T:AC} {ops:Array Oper} {o:Oper} {l:List Oper}
theorem Quiet.lenR {L:AC} {r:Slc} {e t:TypeId} {sz m:Nat} {xs:List (List Value)} (hr:r.Is e sz xs) (hm:xs.length=m) (x:Operand) {e':TypeId} (ht:P.underlying t=some (.slice e')) (ho:o.op=.call { callee:=.builtin .len,args:=#[x],argTypes:=#[t] }) (hx:evF F x=r.v):Quiet P w0 F L o (.int .i64 (m:Int)):=Quiet.pure λw=>by
 subst hm
 rcases hr.row with ⟨rfl,rfl⟩ | ⟨g,cap,sp,rfl,_⟩ <;>
 ·unfold execOp
  simp only [ho,resolve,invoke,builtin,Sem.run_bind,Sem.run_pure,Result.andThen_ok,List.map_toArray,List.map_cons,List.map_nil,hx]
  simp [Builtin.len_,run_underlying ht,goInt,Result.andThen]
theorem appendR (hg:Bv ops n F o=true) (ts e:TypeId) (inf:TypeInfo) (z:Value) (sz by_:Nat) (ht:P.underlying ts=some (.slice e)) (hinf:P.info? e=some inf) (hz:inf.zero=some z) (hs1:inf.size=sz) (hb1:inf.bytes=by_) (hzs:z.cells.size=sz) (h0:0<sz)
  (s x:Operand) (ho:o.op=.call { callee:=.builtin .append,args:=#[s,x],argTypes:=#[ts,ts] })
  {r:Slc} {xs:List (List Value)} (hr:r.Is e sz xs) (hs:evF F s=r.v) (y:List Value) (hy:y.length=sz) (hy1:∀ u∈y,u.oneCell'=true)
  (j gx:Nat) (tx:TypeId) (hx:evF F x=.slice (pA gx) 1 1) (hLx:(pre++(r.bl++T))[j]? = some (gx,tx,y.toArray)) (hsmall:(xs.length+1)*by_≤140737488355328) (h63:xs.length+1≤maxLen)
  (h:∀ r':Slc,r'.Is e sz (xs++[y])→wpS P w0 n ops Q (Bo F o.dst r'.v) (pre++(r'.bl++T)) l):wpS P w0 n ops Q F (pre++(r.bl++T)) (o::l):=by
 have hfrom:From w0 (pre++(r.bl++T)) (pA gx) y:=From.blk hLx (by simp)
 have hlen:∀ u∈xs++[y],u.length=sz:=λu hu=>by
  rcases List.mem_append.1 hu with hu | hu
  ·exact hr.len u hu
  ·rw [List.mem_singleton.1 hu]; exact hy
 have hone:∀ u∈xs++[y], ∀ v∈u,v.oneCell'=true:=λu hu=>by
  rcases List.mem_append.1 hu with hu | hu
  ·exact hr.one u hu
  ·rw [List.mem_singleton.1 hu]; exact hy1
 rcases hr.row with ⟨rfl,rfl⟩ | ⟨g,cap,sp,rfl,q1,q2,q3⟩
 ·refine KL hg ts e inf z sz by_ ht hinf hz hs1 hb1 hzs h0 s x ho hs (pA gx) 1 1 y hx hfrom om dZ hy1 (by simpa using hsmall) (by simpa using h63) (λg' cap' sp' h1 h2 h3=>?_)
  have hq:=h ⟨.slice (some ⟨g',0,none⟩) 1 cap',[(g',e,(y++sp').toArray)]⟩ ⟨hlen,hone,.inr ⟨g',cap',sp',by simp,by simpa using h1,by simpa using h2,h3⟩⟩
  exact permS (by
   rw [List.nil_append,List.append_assoc]
   exact (List.perm_append_comm (l₁:=T) (l₂:=[(g',e,(y++sp').toArray)])).append_left pre) hq
 ·have hi:(pre++([(g,e,(xs.flatten++sp).toArray)]++T))[pre.length]? = some (g,e,(xs.flatten++sp).toArray):=by
   rw [List.getElem?_append_right (Nat.le_refl _),Nat.sub_self]
   rfl
  refine Qx hg ts e inf z sz by_ ht hinf hz hs1 hb1 hzs h0 s x ho pre.length g xs.length cap xs.flatten sp hs hi (Es hr.len) q1 q3 (pA gx) 1 1 y hx hfrom om (Nat.le_refl _) hy1 hsmall h63 (λg' cap' sp' h1 h2 h3=>?_)
  have hq:=h ⟨.slice (some ⟨g',0,none⟩) (xs.length+1) cap',[(g',e,(xs.flatten++y++sp').toArray)]⟩ ⟨hlen,hone,.inr ⟨g',cap',sp',by simp,by simpa using h1,by simpa using h2,h3⟩⟩
  have he:(pre++([(g,e,(xs.flatten++sp).toArray)]++T)).set pre.length (g',e,(xs.flatten++y++sp').toArray)=pre++([(g',e,(xs.flatten++y++sp').toArray)]++T):=by
   rw [List.set_append_right _ _ (Nat.le_refl _),Nat.sub_self]
   rfl
  rw [he]
  exact hq
theorem movT {b:Nat×TypeId×Array Value} (h:wpS P w0 n ops Q F ((pre++[b])++T) l):wpS P w0 n ops Q F ((pre++T)++[b]) l :=
 permS (by
  rw [List.append_assoc,List.append_assoc]
  exact (List.perm_append_comm (l₁:=T) (l₂:=[b])).append_left pre) h
theorem setT {i:Nat} {b:Nat×TypeId×Array Value} (h:wpS P w0 n ops Q F ((pre.set i b)++T) l) (hi:Nat.ble (i+1) pre.length=true:=by kernel_rfl):wpS P w0 n ops Q F ((pre++T).set i b) l:=by
 rw [List.set_append_left _ _ (Nat.le_of_ble_eq_true hi)]
 exact h
theorem St.pick {w:World} {M:AC} (is:List Nat) (hn:is.Nodup) (hm:is.map (λi=>pre[i]?)=M.map some) (hw:St w0 w (pre++T)):St w0 w (M++T):=by
 have hsub:∀ b∈M,b∈pre:=λb hb=>by
  have:some b∈M.map some:=List.mem_map.2 ⟨b,hb,rfl⟩
  rw [← hm] at this
  obtain ⟨i,_,hi⟩:=List.mem_map.1 this
  exact List.mem_of_getElem? hi
 have hap:=hw.apart
 rw [List.map_append,List.nodup_append] at hap
 obtain ⟨hp,hT,hd⟩:=hap
 refine ⟨hw.below,λg t cs hb=>hw.blk g t cs (by
  rcases List.mem_append.1 hb with hb | hb
  ·exact List.mem_append.2 (.inl (hsub _ hb))
  ·exact List.mem_append.2 (.inr hb)),?_,hw.size,hw.non⟩
 rw [List.map_append,List.nodup_append]
 refine ⟨?_,hT,λa ha b hb=>hd a (by
  obtain ⟨x,hx,rfl⟩:=List.mem_map.1 ha
  exact List.mem_map.2 ⟨x,hsub x hx,rfl⟩) b hb⟩
 have hlen:is.length=M.length:=by simpa using congrArg List.length hm
 rw [List.Nodup,List.pairwise_map,List.pairwise_iff_getElem]
 intro a b ha hb hab e
 have q:∀ (c:Nat) (hc:c<M.length),pre[is[c]'om]? = some M[c]:=λc hc=>by
  have:=congrArg (λl=>l[c]?) hm
  simp only [List.getElem?_map] at this
  rw [List.getElem?_eq_getElem om,List.getElem?_eq_getElem hc] at this
  simpa using this
 have q1:=List.getElem?_eq_some_iff.1 (q a ha)
 have q2:=List.getElem?_eq_some_iff.1 (q b hb)
 obtain ⟨l1,e1⟩:=q1
 obtain ⟨l2,e2⟩:=q2
 have hne:is[a]'(by omega)≠is[b]'(by omega):=λe3=>by
  have:=List.pairwise_iff_getElem.1 hn a b om om hab
  exact this e3
 have hpw:=List.pairwise_iff_getElem.1 hp
 rcases Nat.lt_or_gt_of_ne hne with hlt | hlt
 ·have:=hpw _ _ (by simpa using l1) (by simpa using l2) hlt
  simp only [List.getElem_map,e1,e2] at this
  exact this e
 ·have:=hpw _ _ (by simpa using l2) (by simpa using l1) hlt
  simp only [List.getElem_map,e1,e2] at this
  exact this e.symm
theorem loopT {L:AC} {Y:Type} {c:Code} (N:Nat) (FF:Nat→Y→AO) (LL:Nat→Y→AC) (H:Nat→Y→Prop) (x0:Y) (h0:H 0 x0) (hF:∀ p∈FF 0 x0,F.lookup p.1=some p.2) (hL:∀ w,St w0 w L→St w0 w (LL 0 x0))
  (hr:∀ k x,k≤N→H k x→wpC P w0 n (Exit.then (OO w0 n N FF LL H k) Q) (FF k x) (LL k x) c):wpC P w0 n Q F L (.loop c) :=
 Nb N (λk a w=>∃ x,H k x∧Fr w0.ds a n (FF k x)∧St w0 w (LL k x)) (λ_ w ha hw=>⟨x0,h0,ha.all hF,hL w hw⟩)
  λk hk a w ⟨x,hx,ha,hw⟩=>hr k x hk hx a w ha hw
theorem againT {L:AC} {Y:Type} {N:Nat} {FF:Nat→Y→AO} {LL:Nat→Y→AC} {H:Nat→Y→Prop} {k:Nat} {R:Exit→Act→World→Prop} (y:Y) (hk:k<N) (hy:H (k+1) y) (hF:∀ p∈FF (k+1) y,F.lookup p.1=some p.2) (hL:∀ w,St w0 w L→St w0 w (LL (k+1) y)) :
  X w0 n (Exit.then (OO w0 n N FF LL H k) R) F L .normal:=λ_ w ha hw=>⟨hk,y,hy,ha.all hF,hL w hw⟩
theorem Slc.Is.cells {r:Slc} {e:TypeId} {sz:Nat} {xs:List (List Value)} (h:r.Is e sz xs):r.v.cells=#[r.v]∧r.v.oneCell'=true:=by
 rcases h.row with ⟨rfl,rfl⟩ | ⟨g,cap,sp,rfl,_⟩ <;> exact ⟨rfl,rfl⟩
end
theorem J_:∀ (c:List Value) (off k:Nat) (cs:Array Value),(c.zipIdx k).foldl (λcs x=>cs.setIfInBounds (off+x.2) x.1) cs=BI cs (off+k) c
 | [],_,_,_=>rfl
 | v::c,off,k,cs=>by
  rw [List.zipIdx_cons,List.foldl_cons,J_ c off (k+1)]
  rfl
section
variable {P:Program} {w0:Base} {F:AO} {L:AC} {o:Oper}
theorem Et (t:TypeId) (x hx':Operand) (g f len cap hi s:Nat) (kh:IntKind) (ho:o.op=.slice t x none (some hx') none) (hx:evF F x=.slice (some ⟨g,f,none⟩) len cap) (hh:evF F hx'=.int kh (hi:Int)) (ht:P.underlying t=some (.slice (P.elem t))) (hsz:∀ w,(sizeOf (P.elem t)).run P w=.ok s w) (h1:hi≤cap) (w:World) :
  (execOp (evF F) o).run P w=.ok (.value (.slice (some ⟨g,f,none⟩) hi cap)) w:=by
 have e:(Instr.sliceAt t (.slice (some ⟨g,f,none⟩) len cap) none (some (.int kh (hi:Int))) none).run P w=.ok (.slice (some ⟨g,f,none⟩) hi cap) w:=by
  rw [run_sliceAt_slice w t _ _ _ _ ht]
  simp [Instr.slice,run_underlying ht,Instr.sliceBounds,Instr.sliceBound,asIntOf,h1,hsz,Result.andThen,Addr.add]
 unfold execOp
 simp only [ho,hx,hh,Option.map_some,Option.map_none,e,Sem.run_bind,Sem.run_pure,Result.andThen_ok]
end
theorem Slc.Is.mk' {g nn cap:Nat} {e:TypeId} {sz:Nat} {xs:List (List Value)} {cs:List Value} (hl:∀ x∈xs,x.length=sz) (h1:∀ x∈xs, ∀ u∈x,u.oneCell'=true) (hn:xs.length=nn) (hc:cs.take (nn*sz)=xs.flatten) (hs:cs.length=cap*sz) (hle:nn≤cap) (hm:cap≤maxLen):Slc.Is ⟨.slice (pA g) nn cap,[(g,e,cs.toArray)]⟩ e sz xs:=by
 subst hn
 refine ⟨hl,h1,.inr ⟨g,cap,cs.drop (xs.length*sz),?_,?_,hle,hm⟩⟩
 ·rw [← hc,List.take_append_drop]
 ·have:=Nat.mul_le_mul_right sz hle
  rw [List.length_drop]
  omega
section
variable {P:Program} {w0:Base} {n:Nat} {Q:Exit→Act→World→Prop} {F:AO} {L M:AC} {ops:Array Oper} {ex:Nat→Bool} {fuel:Nat} {listed:Array Bool} {pre T:AC}
theorem permD (p:L.Perm M) (h:wpD P w0 n ops Q ex F M fuel listed):wpD P w0 n ops Q ex F L fuel listed:=λa w ha hw=>h a w ha (hw.perm p)
theorem Tr {b:Nat×TypeId×Array Value}:((pre++T)++[b]).Perm ((pre++[b])++T):=by
 rw [List.append_assoc,List.append_assoc]
 exact (List.perm_append_comm (l₁:=T) (l₂:=[b])).append_left pre
theorem movTD {b:Nat×TypeId×Array Value} (h:wpD P w0 n ops Q ex F ((pre++[b])++T) fuel listed):wpD P w0 n ops Q ex F ((pre++T)++[b]) fuel listed:=permD Tr h
theorem setTD {i:Nat} {b:Nat×TypeId×Array Value} (h:wpD P w0 n ops Q ex F ((pre.set i b)++T) fuel listed) (hi:Nat.ble (i+1) pre.length=true:=by kernel_rfl):wpD P w0 n ops Q ex F ((pre++T).set i b) fuel listed:=by
 rw [List.set_append_left _ _ (Nat.le_of_ble_eq_true hi)]
 exact h
def Td (Q:Exit→Act→World→Prop) (K:Act→World→Prop):Exit→Act→World→Prop
 | .normal=>K
 | .panic c=>Q (.panic c)
 | _=>λ_ _=>False
theorem Pv {o:Oper} {a:Act} {w:World} {K' K:Act→World→Prop} (h:o.wp P a w K (Td Q K')):o.wp P a w K Q:=by
 unfold Oper.wp at *
 generalize (execOp a.eval o).run P w=r at *
 cases r with
 | ok x w' =>
  cases x <;> simp only [Oper.upon] at h ⊢ <;>
   first
    | exact h
    | exact Calls.mono h (λe w'' he=>by cases e <;> first | exact he | (obtain ⟨_,_,q⟩:=he; exact q.elim))
 | halt x w'=>cases x <;> simp only [Oper.upon] at h ⊢ <;> exact h
theorem soleD (k:Nat) {oi:Oper} (hi0:ops.toList[k]? = some oi) (h:∀ Q',(∀ F' L',wpD P w0 n ops Q ex F' L' fuel (listed.setIfInBounds k true)→wpS P w0 n ops Q' F' L' [])→wpS P w0 n ops Q' F L [oi])
  (hg:C2 ops F oi=some true:=by kernel_rfl) (hr:Region.ready .any ops listed=[k]:=by kernel_rfl) (hex:ex k=true:=by rfl):wpD P w0 n ops Q ex F L (fuel+1) listed:=λa w ha hw =>
 Al k hi0 hr (ha.wanted hg) λw1 h1 K hK=>by
  have q:=h (Td Q K) (λF' L' hd a' w' ha' hw'=>wpList_nil (hK _ _ (λe=>by rw [hex] at e; cases e) (hd a' w' ha' hw'))) a w1 ha (hw.gr h1)
  unfold wpList at q
  rw [if_pos (ha.wanted hg)] at q
  rcases q with q | ⟨_,a',w',q⟩
  ·exact Pv (K':=K) q
  ·exact q.elim
end
def Bb (r:Nat→Slc) (n:Nat):AC:=(List.range n).flatMap λi=>(r i).bl
def FJ (r:Nat→Slc) (n i:Nat):AC:=((List.range n).filter λj=>j != i).flatMap λj=>(r j).bl
def DP (r:Nat→Slc) (i:Nat) (x:Slc):Nat→Slc:=λj=>if j=i then x else r j
def nilS:Slc:=⟨.slice none 0 0,[]⟩
section
variable {r:Nat→Slc} {n i:Nat} {x:Slc}
theorem Dv:DP r i x i=x:=if_pos U
theorem E6 {j:Nat} (h:j≠i):DP r i x j=r j:=if_neg h
theorem H9 (r:Nat→Slc) (hi:i<n):(Bb r n).Perm ((r i).bl++FJ r n i):=by
 have h1:(List.range n).Perm (i::(List.range n).erase i):=List.perm_cons_erase (List.mem_range.2 hi)
 rw [List.nodup_range.erase_eq_filter] at h1
 exact h1.flatMap_right _
theorem RM (r:Nat→Slc) (n i:Nat) (x:Slc):FJ (DP r i x) n i=FJ r n i:=by
 unfold FJ
 rw [List.flatMap_def,List.flatMap_def]
 refine congrArg _ (List.map_congr_left λj hj=>?_)
 have:j≠i:=by simpa using (List.mem_filter.1 hj).2
 rw [E6 this]
theorem Ks (hi:i<n):(x.bl++FJ r n i).Perm (Bb (DP r i x) n):=by
 have h:=(H9 (DP r i x) hi).symm
 rwa [Dv,RM] at h
theorem TF (hi:i<n) {b:Nat×TypeId×Array Value} (hb:b∈(r i).bl):b∈Bb r n:=List.mem_flatMap.2 ⟨i,List.mem_range.2 hi,hb⟩
theorem out_perm {pre T:AC} (r:Nat→Slc) (hi:i<n):(pre++(Bb r n++T)).Perm (pre++((r i).bl++(FJ r n i++T))):=by
 rw [← List.append_assoc (r i).bl]
 exact ((H9 r hi).append_right T).append_left pre
theorem in_perm {pre T:AC} (hi:i<n):(pre++(x.bl++(FJ r n i++T))).Perm (pre++(Bb (DP r i x) n++T)):=by
 rw [← List.append_assoc x.bl]
 exact ((Ks hi).append_right T).append_left pre
def BF (r:Nat→Slc) (n:Nat):Array Value:=(AL (λj=>[(r j).v]) n).toArray
theorem Du (hi:i<n) {o:Nat} (ho:o=0+i*1):(BF r n)[o]? = some (r i).v:=by
 rw [ho,Nat.zero_add,Nat.mul_one]
 exact R5 (f:=λj=>(r j).v) hi
theorem Of:(BF r n).size=n:=PR (f:=λj=>(r j).v)
theorem ND (hi:i<n) {o:Nat} (ho:o=0+i*1):o<(BF r n).size:=by rw [Of]; omega
theorem Kt (hi:i<n) {o:Nat} (ho:o=0+i*1) {u:Value} (hu:x.v=u):(BF r n).setIfInBounds o u=BF (DP r i x) n:=by
 rw [ho,Nat.zero_add,Nat.mul_one, ← hu]
 unfold BF
 rw [Rz (f:=λj=>(r j).v) hi]
 refine congrArg List.toArray (CD λj _=>?_)
 unfold DP
 split <;> rfl
def RowsAre (r:Nat→Slc) (e:TypeId) (sz:Nat) (f:Nat→Nat→List Value) (c:Nat→Nat):Prop:=∀ i,(r i).Is e sz ((List.range (c i)).map (f i))
theorem RowsAre.nil (e:TypeId) (sz:Nat) (f:Nat→Nat→List Value):RowsAre (λ_=>nilS) e sz f (λ_=>0):=λ_=>Slc.Is.nil e sz
theorem RowsAre.put {e:TypeId} {sz:Nat} {f:Nat→Nat→List Value} {c c':Nat→Nat} (h:RowsAre r e sz f c) (hx:x.Is e sz ((List.range (c i)).map (f i)++[f i (c i)])) (hc:c' i=c i+1) (hc':∀ j,j≠i→c' j=c j):RowsAre (DP r i x) e sz f c':=λj=>by
 by_cases hj:j=i
 ·subst hj
  rw [Dv,hc,List.range_succ,List.map_append]
  exact hx
 ·rw [E6 hj,hc' j hj]
  exact h j
theorem RowsAre.cnt {e:TypeId} {sz:Nat} {f:Nat→Nat→List Value} {c c':Nat→Nat} (h:RowsAre r e sz f c) (hc:∀ j,c' j=c j):RowsAre r e sz f c':=λj=>by rw [hc]; exact h j
def Ce (n:Nat→Nat) (k j:Nat) (i:Nat):Nat:=if i<k then n i else if i=k then j else 0
theorem IM (n:Nat→Nat) (i:Nat):Ce n 0 0 i=0:=by unfold Ce; simp
theorem Ef (n:Nat→Nat) (k j:Nat):Ce n k j k=j:=by unfold Ce; simp
theorem Wz {n:Nat→Nat} {k j i:Nat} (h:i≠k):Ce n k (j+1) i=Ce n k j i:=by unfold Ce; simp [h]
theorem Zz (n:Nat→Nat) (k i:Nat):Ce n (k+1) 0 i=Ce n k (n k) i:=by
 unfold Ce
 by_cases h1:i<k
 ·simp [h1,Nat.lt_succ_of_lt h1]
 ·by_cases h2:i=k
  ·subst h2; simp
  ·have:¬ i<k+1:=om
   simp [h1,h2,this]
theorem Ew {n:Nat→Nat} {k i:Nat} (h:i<k):Ce n k 0 i=n i:=by unfold Ce; simp [h]
theorem RowsAre.put' {e:TypeId} {sz:Nat} {f:Nat→Nat→List Value} {c:Nat→Nat} {k j:Nat} {y:List Value} (h:RowsAre r e sz f (Ce c k j)) (hx:x.Is e sz ((List.range (Ce c k j k)).map (f k)++[y])) (hy:y=f k j):RowsAre (DP r k x) e sz f (Ce c k (j+1)) :=
 h.put (by rw [hy] at hx; rwa [show f k (Ce c k j k)=f k j by rw [Ef]]) (by rw [Ef,Ef]) (λi hi=>Wz hi)
theorem H_:Bb (λ_=>nilS) n=[]:=by simp [Bb,nilS]
def IV (eo e:TypeId) (sz:Nat) (f:Nat→Nat→List Value) (c:Nat→Nat) (N:Nat) (v:Value) (M:AC):Prop:=∃ g r,v=.slice (pA g) N N∧M=(g,eo,BF r N)::Bb r N∧RowsAre r e sz f c
theorem RowsAre.lst {e:TypeId} {sz m N:Nat} {f:Nat→Nat→List Value} {c:Nat→Nat} (h:RowsAre r e sz f c) {i:Nat} (hm:c i=m) (hi:i<N):∃ A k,(r i).v=.slice A m k∧m≤k∧k≤maxLen∧∀ {w0:Base} {w:World} {L:AC},St w0 w L→(∀ b∈Bb r N,b∈L)→Lst w sz A m (f i):=by
 subst hm
 obtain ⟨A,k,h1,h2,h3,h4⟩:=(h i).out
 rw [List.length_map,List.length_range] at h1 h2 h4
 refine ⟨A,k,h1,h2,h3,λ{w0 w L} hw hb=>?_⟩
 obtain ⟨g,o,q⟩:=h4 hw (λb hm=>hb b (TF hi hm))
 refine ⟨g,o,λhn=>?_⟩
 obtain ⟨q1,q2,q3⟩:=q hn
 refine ⟨q1,q2,λj hj=>?_⟩
 have q4:w.rangeAt g (o+j*sz) ((List.map (f i) (List.range (c i))).getD j []):=q3 j hj
 rw [List.getD_eq_getElem?_getD,List.getElem?_map,List.getElem?_range hj] at q4
 exact q4
end
section
variable {w0:Base} {w:World} {pre a T M N:AC}
theorem St.pick2 (is:List Nat) (hn:is.Nodup) (hm:is.map (λi=>pre[i]?)=(M++N).map some) (hw:St w0 w (pre++(a++T))):St w0 w (M++(a++(T++N))):=by
 refine (St.pick is hn hm hw).perm ?_
 rw [List.append_assoc, ← List.append_assoc a]
 exact (List.perm_append_comm (l₁:=N) (l₂:=a++T)).append_left M
end
theorem R8 {place:Nat→Option (Nat×Nat)} {cs:Array Value} {v:Value} {c:List Value} {n:Nat} (hv:v.cells=#[v]) (hp0:place 0=some (0,1)) (hp1:place 1=some (1,n)) (hc:c.length=n) (hs:cs.size=n+1):Instr.fill place cs [(0,v),(1,.agg c.toArray)]=some (v::c).toArray:=by
 unfold Instr.fill
 rw [hp0]
 simp only [hv,List.size_toArray,List.length_singleton,hs,Nat.zero_add,ne_eq,not_true_eq_false,decide_false,Bool.false_or]
 rw [if_neg (by simp)]
 unfold Instr.fill
 rw [hp1]
 have hz:(#[v].zipIdx).foldl (λcs (x:Value×Nat)=>cs.setIfInBounds x.2 x.1) cs=cs.setIfInBounds 0 v:=rfl
 simp only [Value.cells,List.size_toArray,hc,ne_eq,not_true_eq_false,decide_false,Bool.false_or]
 have hcs:(cs.setIfInBounds 0 v).size=n+1:=by rw [Array.size_setIfInBounds,hs]
 rw [hz,if_neg (by rw [hcs]; simp; omega)]
 unfold Instr.fill
 have h1:c.toArray.zipIdx.foldl (λcs (x:Value×Nat)=>cs.setIfInBounds (1+x.2) x.1) (cs.setIfInBounds 0 v)=BI (cs.setIfInBounds 0 v) (1+0) c:=by
  rw [← J_ c 1 0, ← Array.foldl_toList,Array.toList_zipIdx]
 have h2:=Cu.setAll_all c 1 (cs.setIfInBounds 0 v) (by rw [hcs]; omega)
 rw [h1,Nat.add_zero,h2,Array.toList_setIfInBounds]
 obtain ⟨a,r,e⟩:∃ a r,cs.toList=a::r:=by
  cases h:cs.toList with
  | nil=>rw [← Array.length_toList,h] at hs; simp at hs
  | cons a r=>exact ⟨a,r,rfl⟩
 rw [e]
 rfl
section
variable {P:Program} {w0:Base} {F:AO} {L:AC} {o:Oper}
theorem Quiet.build2V (t:TypeId) (fs:Array Field) (it:TypeInfo) (zv:Value) (x y:Operand) (v:Value) (c:List Value) (n:Nat) (ho:o.op=.build t #[(0,x),(1,y)]) (hx:evF F x=v) (hv:v.cells=#[v]) (hy:evF F y=.agg c.toArray) (hu:P.underlying t=some (.struct fs)) (hit:P.info? t=some it) (hz:it.zero=some zv) (hzs:zv.cells.size=n+1)
  (hpl:fs.toList.mapM (λf=>(P.info? f.type).map λi=>(f.offset,i.size))=some [(0,1),(1,n)]) (hc:c.length=n):Quiet P w0 F L o (.agg (v::c).toArray):=Quiet.pure λw=>by
 have hb:P.built t #[(0,v),(1,.agg c.toArray)].toList=some (v::c).toArray:=by
  unfold Program.built
  rw [hit,hu]
  simp only [hz,hpl]
  exact R8 hv U U hc hzs
 have hr:=run_build (P:=P) w t #[(0,v),(1,.agg c.toArray)] _ hb
 unfold execOp
 simp only [ho,Sem.run_bind,List.map_toArray,List.map_cons,List.map_nil,hx,hy,hr,Result.andThen_ok,Sem.run_pure]
end
end Sy
end
section
namespace Cu
open Go.RowKit Sy
structure TxsIs (w0:Base) (e:TypeId) (y:Slc) (T:AC) (ts:List Sh.Tx):Prop where
 row:y.Is e 1 (ts.map λt=>[t.val])
 ok:∀ (w:World) (L:AC),St w0 w L→(∀ b∈T,b∈L)→∀ t∈ts,t.ok w
section
variable {w0:Base} {e:TypeId} {y:Slc} {T:AC} {ts:List Sh.Tx}
theorem TxsIs.nil (w0:Base) (e:TypeId):TxsIs w0 e nilS [] []:=⟨Slc.Is.nil _ _,λ_ _ _ _ _ h=>(by cases h)⟩
theorem TxsIs.start {g:Nat} {A:Option Addr} {m:AF} {n c:Nat} (hn:m.length=n) (hok:∀ w L,St w0 w L→(Sh.Tx.mk A m c).ok w):TxsIs w0 e ⟨.slice (pA g) 1 1,[(g,e,#[.slice A n c])]⟩ [] [⟨A,m,c⟩]:=by
 subst hn
 refine ⟨Slc.Is.mk' (cs:=[.slice A m.length c]) (λx hx=>?_) (λx hx u hu=>?_) rfl U U (Nat.le_refl _) dZ,λw L hw _ t ht=>?_⟩
 ·rw [List.mem_singleton.1 hx]; rfl
 ·rw [List.mem_singleton.1 hx] at hu
  rw [List.mem_singleton.1 hu]; rfl
 ·rw [List.mem_singleton.1 ht]; exact hok w L hw
theorem TxsIs.texts (h:TxsIs w0 e y T ts):∃ A c,y.v=.slice A ts.length c∧ts.length≤c∧c≤maxLen∧∀ {w:World} {L:AC},St w0 w L→(∀ b∈y.bl,b∈L)→(∀ b∈T,b∈L)→Sh.Texts w A ts:=by
 obtain ⟨A,c,h1,h2,h3,h4⟩:=h.row.out
 rw [List.length_map] at h1 h2 h4
 refine ⟨A,c,h1,h2,h3,λ{w L} hw hy hT hne=>?_⟩
 obtain ⟨g,o,q⟩:=h4 hw hy
 obtain ⟨q1,q2,q3⟩:=q (List.length_pos_iff.2 hne)
 refine ⟨g,o,q1,q2,λj x hx=>⟨?_,h.ok w L hw hT x (List.mem_of_getElem? hx)⟩⟩
 have hj:=(List.getElem?_eq_some_iff.1 hx).1
 have q4:w.rangeAt g (o+j*1) ((ts.map λt=>[t.val]).getD j []):=q3 j hj
 rw [List.getD_eq_getElem?_getD,List.getElem?_map,hx] at q4
 have q5:=Ar q4 0 U
 rwa [Nat.mul_one,Nat.add_zero] at q5
theorem TxsIs.add (h:TxsIs w0 e y T ts) {y':Slc} {v:Value} (t:Sh.Tx) (T':AC) (hy:y'.Is e 1 (ts.map (λt=>[t.val])++[[v]])) (hv:t.val=v) (hok:∀ w L,St w0 w L→(∀ b∈T',b∈L)→t.ok w):TxsIs w0 e y' (T++T') (ts++[t]) :=
 ⟨by rw [List.map_append]; subst hv; exact hy,λw L hw hT x hx=>(List.mem_append.1 hx).elim (λh1=>h.ok w L hw (λb hb=>hT b (List.mem_append.2 (.inl hb))) x h1) (λh1=>by rw [List.mem_singleton.1 h1]; exact hok w L hw (λb hb=>hT b (List.mem_append.2 (.inr hb))))⟩
theorem I7 (ts:List Sh.Tx) (t:Sh.Tx):Sh.cat (ts++[t])=Sh.cat ts++t.l:=by unfold Sh.cat; rw [List.flatMap_append]; simp
theorem O' {g:Nat} {t:TypeId} {l:AF} {c:Nat} (hl:l.length≤c) (hc:c≤9223372036854775807):∀ w L,St w0 w L→(∀ b∈[(g,t,(l.map bv).toArray)],b∈L)→(Sh.Tx.mk (pA g) l c).ok w:=λw L hw hT=>⟨Sh.Src.of_blk (hw.blk g t _ (hT _ (List.mem_singleton.2 U))).2,hl,hc⟩
theorem VD {g c n:Nat} {l:AF} (hl:l.length=n):(Sh.Tx.mk (pA g) l c).val=.slice (pA g) n c:=by
 unfold Sh.Tx.val
 rw [hl]
end
noncomputable def UA:TypeInfo:=(Tryz.prog.info? 132).getD default
theorem T_:Tryz.prog.info? 132=some UA:=kZ
noncomputable def Z3:TypeInfo:=(Tryz.prog.info? 29).getD default
theorem GO:Tryz.prog.info? 29=some Z3:=kZ
theorem Js (A:Option Addr) (n c:Nat):∀ u∈[Value.slice A n c],u.oneCell'=true:=λu hu=>by rw [List.mem_singleton.1 hu]; rfl
theorem OC (R:Option Addr) (n c:Nat) {l:AF} (h:l.length=32):(Bj R n c l).length=33:=by simp [Bj,h]
theorem Ut (R:Option Addr) (n c:Nat) (l:AF):∀ u∈Bj R n c l,u.oneCell'=true:=λu hu=>by
 rcases List.mem_cons.1 hu with rfl | hu
 ·rfl
 ·obtain ⟨x,_,rfl⟩:=List.mem_map.1 hu; rfl
def Nd (X Y:Nat→Nat) (I:Nat→Bool):Nat→List UInt8
 | 0=>[]
 | k+1=>Nd X Y I k++Ay (dec (X k) (Y k) (I k))
def D3 (n:Nat→Nat) (X Y:Nat→Nat→Nat) (I:Nat→Nat→Bool):Nat→List UInt8
 | 0=>[]
 | k+1=>D3 n X Y I k++(UInt8.ofNat (n k)::Nd (X k) (Y k) (I k) (n k))
theorem LD (X Y:Nat→Nat) (I:Nat→Bool):∀ k,(Nd X Y I k).length=33*k
 | 0=>rfl
 | k+1=>by
  show (Nd X Y I k++_).length=_
  rw [List.length_append,LD X Y I k,Ai]
  omega
theorem Jd {n:Nat→Nat} {N:Nat} (h:∀ i,i<N→n i≤64) (X Y:Nat→Nat→Nat) (I:Nat→Nat→Bool):∀ k,k≤N→(D3 n X Y I k).length≤2113*k
 | 0,_=>Nat.le_refl _
 | k+1,hk=>by
  show (D3 n X Y I k++(_::_)).length≤_
  have:=Jd h X Y I k om
  have:=h k om
  rw [List.length_append,List.length_cons,LD]
  omega
def rgM (m:AF) (N:Nat) (n:Nat→Nat) (X Y:Nat→Nat→Nat) (I:Nat→Nat→Bool):List UInt8:=Sh.taggedS rgRing.data.toList (m++D3 n X Y I N)
theorem Lw (m:AF) (N:Nat) (n:Nat→Nat) (X Y:Nat→Nat→Nat) (I:Nat→Nat→Bool):(rgM m N n X Y I).length=32:=Dd _ _
theorem OH (w:World) (R:Option Addr) (NR cR:Nat) (a:Nat→Option Addr) (nk ck:Nat→Nat) (X Y:Nat→Nat→Nat) (I:Nat→Nat→Bool) (hX:∀ i k,X i k<K4) (hY:∀ i k,Y i k<K4) (hNR:NR≤4611686018427387904) (hnk:∀ i,nk i≤4611686018427387904) (hlr:Lst w 1 R NR (λi=>[.slice (a i) (nk i) (ck i)])) (hlk:∀ i,i<NR→Lst w 9 (a i) (nk i) (λk=>pml (X i k) (Y i k) (I i k))) (hN32:NR≤32) (hn64:∀ i,i<NR→nk i≤64) (A:Option Addr) (m:AF) (n c:Nat) (hm:m.length=n) (hm9:n≤999000000) (hc:n≤c) (hc2:c≤9223372036854775807) (hs0:Sh.Src w A m) (ht:Sh.TabAt w 1):AY 96 #[.slice A n c,.slice R NR cR] w (Gets w (CK R NR cR (rgM m NR nk X Y I))):=by
 have hlr0:=hlr
 obtain ⟨gR,oR,hR⟩:=hlr
 refine Sy.enter (args:=[.slice A n c,.slice R NR cR]) Tryz.func96 U kL<|sC<|sM 132 (Bj none 0 0 (List.replicate 32 (0:UInt8))).toArray (λg0=>?_)
 refine sA<|sp U<|Sy.make kR 29 #[.slice A n c] (λg=>.slice (pA g) 1 1) kF (λg1=>?_)
 refine sp U<|sG<|Sy.seq<|sC<|sp U<|sP (iZ NR)<|sp U<|sG<|Sy.block<|Sy.loopT (Y:=Slc×AC×List Sh.Tx) NR (λk1 y1=>[(1,.slice R NR cR),(4,pT g0 0),(5,y1.1.v),(12,.slice R NR cR),(13,iZ NR),(14,iZ k1)]) (λk1 y1=>[(g0,132,(Bj none 0 0 (List.replicate 32 (0:UInt8))).toArray)]++(y1.1.bl++y1.2.1)) (λk1 y1=>TxsIs (Base.of w) 29 y1.1 y1.2.1 y1.2.2∧Sh.cat y1.2.2=m++D3 nk X Y I k1∧y1.2.2.length≤1+65*k1) (⟨.slice (pA g1) 1 1,[(g1,29,#[.slice A n c])]⟩,[],[(⟨A,m,c⟩:Sh.Tx)]) ⟨TxsIs.start hm (λ_ _ hw=>⟨hs0.below hw.below,by show m.length≤c; omega,hc2⟩),by simp [Sh.cat,D3],by simp⟩ ac6 (λw hw=>hw) (λk1 y1 hk1 hh1=>?_)
 refine sC ?_
 obtain ⟨b1,hb1⟩:=xE (decide (k1<NR))
 refine sS (.bool b1) (qls U U U hb1)<|sG<|Sy.seq ?_
 cases b1
 ·have lb1:=dN hb1
  refine sU<|Sy.exit<|Sy.then_exit<|Sy.then_exit ?_
  obtain rfl:NR=k1:=om
  refine Sy.in_exit<|sB<|sp U<|sp U ?_
  obtain ⟨bM,hbM⟩:=xE (rgM m NR nk X Y I)
  have hbl:bM.length=32:=by rw [hbM]; exact Lw _ _ _ _ _ _
  refine sS (.agg (bM.map bv).toArray) (qg (args:=#[.string rgRing,y1.1.v]) (λw hw=>by obtain ⟨Q,d,hv,_,_,htx⟩:=hh1.1.texts; rw [hv,hbM]; have hq:=Jd hn64 X Y I NR (Nat.le_refl _); have q:=Sh.tagged_any w rgRing Q y1.2.2 d (htx hw (λb hb=>List.mem_append.2 (.inr (List.mem_append.2 (.inl hb)))) (λb hb=>List.mem_append.2 (.inr (List.mem_append.2 (.inr hb))))) (ht.below hw.below ht.lt) dZ (by rw [hh1.2.1,List.length_append]; omega) (by omega); rw [hh1.2.1] at q; exact q))<|sS (CK R NR cR bM) (Quiet.build2V 132 _ UA _ _ _ _ _ 32 U U U kR EP T_ U U kR ((List.length_map ..).trans hbl))<|sw 0 U (Bj R NR cR bM).toArray (Writes.row 132 (Bj R NR cR bM) 33 _ _ U kR kR kR (OC _ _ _ hbl) kR (Ut _ _ _ _))<|Sy.setT<|sG<|Sy.ret ?_
  rw [← hbM]
  exact Sy.ret1 U (v:=CK R NR cR bM) (.inl (Res.cell (ty':=132) g0 0 (Bj R NR cR bM).toArray _ kR kR EP U (by rw [List.size_toArray,OC _ _ _ hbl]; kernel_rfl) rfl))
 ·have lb1:=dY hb1
  have hnk1:=hn64 k1 lb1
  obtain ⟨gK,oK,hT⟩:=hlk k1 lb1
  refine sT<|Sy.skip<|Sy.then_<|Sy.seq<|Sy.block<|sC<|sS (.pointer (some ⟨gR,oR+k1*1,none⟩)) (Quiet.pure (Af 73 _ _ _ R gR oR NR cR k1 1 .i64 (hR om).1 U U U D0 kF om))<|sS (.slice (a k1) (nk k1) (ck k1)) (Quiet.thereOne gR (oR+k1*1) 54 _ _ U kR (hR om).2.1 _ (Ar ((hR om).2.2 k1 om) 0 U) CE U)<|sp U<|sA<|sp U<|sp U<|sP (iZ ((nk k1)))<|sS (bv (UInt8.ofNat (nk k1))) (Quiet.pure (λw=>DZ w _ _ _ (nk k1) om U U))<|Sy.make kR 5 #[bv (UInt8.ofNat (nk k1))] (λg=>.slice (pA g) 1 1) kF (λg2=>?_)
  refine Sy.movT<|Sy.make kR 29 #[.slice (pA g2) 1 1] (λg=>.slice (pA g) 1 1) kF (λg3=>?_)
  refine Sy.movT<|Sy.appendR kR 58 29 _ _ 1 24 Ik GO U U U U dZ _ _ U hh1.1.row kR [.slice (pA g2) 1 1] rfl (Js _ _ _) 2 g3 29 kR kR (by (rw [List.length_map]); omega) (by (rw [List.length_map]); simp only [maxLen]; omega) (λr1 hr1=>?_)
  refine sp U<|sA<|sp U<|sP (iZ ((nk k1)))<|sp U<|sG<|Sy.block<|Sy.loopT (Y:=Slc×AC×List Sh.Tx) (nk k1) (λk2 y2=>[(1,.slice R NR cR),(4,pT g0 0),(5,y2.1.v),(7,.slice (a k1) (nk k1) (ck k1)),(12,.slice R NR cR),(13,iZ NR),(14,iZ k1),(25,.slice (a k1) (nk k1) (ck k1)),(26,iZ ((nk k1))),(27,iZ k2)]) (λk2 y2=>[(g0,132,(Bj none 0 0 (List.replicate 32 (0:UInt8))).toArray)]++(y2.1.bl++y2.2.1)) (λk2 y2=>TxsIs (Base.of w) 29 y2.1 y2.2.1 y2.2.2∧Sh.cat y2.2.2=m++(D3 nk X Y I k1++(UInt8.ofNat (nk k1)::Nd (X k1) (Y k1) (I k1) k2))∧y2.2.2.length≤2+65*k1+k2) (r1,y1.2.1++[(g2,5,([UInt8.ofNat (nk k1)].map bv).toArray)],y1.2.2++[(⟨some ⟨g2,0,none⟩,[UInt8.ofNat (nk k1)],1⟩:Sh.Tx)]) ⟨hh1.1.add _ _ hr1 U (O' (Nat.le_refl 1) dZ),by rw [I7,hh1.2.1,List.append_assoc]; rfl,by rw [List.length_append,List.length_singleton]; omega⟩ ZL (λw hw=>Sy.St.pick2 (pre:=[(g0,132,(Bj none 0 0 (List.replicate 32 (0:UInt8))).toArray),(g2,5,#[bv (UInt8.ofNat (nk k1))]),(g3,29,#[.slice (pA g2) 1 1])]) (M:=[(g0,132,(Bj none 0 0 (List.replicate 32 (0:UInt8))).toArray)]) (N:=[(g2,5,([UInt8.ofNat (nk k1)].map bv).toArray)]) [0,1] dZ kR hw) (λk2 y2 hk2 hh2=>?_)
  refine sC ?_
  obtain ⟨b2,hb2⟩:=xE (decide (k2<(nk k1)))
  refine sS (.bool b2) (qls U U U hb2)<|sG<|Sy.seq ?_
  cases b2
  ·have lb2:=dN hb2
   refine sU<|Sy.exit<|Sy.then_exit<|Sy.then_exit ?_
   obtain rfl:k2=nk k1:=om
   refine Sy.in_exit<|Sy.in_<|Sy.then_<|Sy.region<|sS (iZ (k1+1)) (qad U U U)<|sp U<|Sy.nil ?_
   exact Sy.againT y2 om (⟨hh2.1,by rw [hh2.2.1]; rfl,by omega⟩) ac6 (λw hw=>hw)
  ·have lb2:=dY hb2
   refine sT<|Sy.skip<|Sy.then_<|Sy.seq<|Sy.block<|sC<|sS (.pointer (some ⟨gK,oK+k2*9,none⟩)) (Quiet.pure (Af 54 _ _ _ (a k1) gK oK (nk k1) (ck k1) k2 9 .i64 (hT om).1 U U U CE kF om))<|sS (pv (X k1 k2) (Y k1 k2) (I k1 k2)) (Quiet.there gK (oK+k2*9) 9 37 (pml (X k1 k2) (Y k1 k2) (I k1 k2)) _ _ U kR (hT om).2.1 ((hT om).2.2 k2 om) AX U kR U _ U)<|sM 37 (pcs 0 0 false) (λg4=>?_)
   refine Sy.movT<|sw 1 U (pcs (X k1 k2) (Y k1 k2) (I k1 k2)) (wA U)<|Sy.setT<|sG<|Sy.region<|sp U<|sS (pv (X k1 k2) (Y k1 k2) (I k1 k2)) (qk 1 0 9 U U AX)<|Sy.callN kR 156 #[pv (X k1 k2) (Y k1 k2) (I k1 k2)] kF ((Dk (dec (X k1 k2) (Y k1 k2) (I k1 k2)))) (λw hw=>KF w _ _ _ (hX _ _) (hY _ _)) (λvq Mq hR0=>?_)
   obtain ⟨q7,rfl,rfl⟩:=hR0
   refine Sy.movT<|Sy.make kR 29 #[.slice (pA q7) 33 33] (λg=>.slice (pA g) 1 1) kF (λg5=>?_)
   refine Sy.movT<|Sy.appendR kR 58 29 _ _ 1 24 Ik GO U U U U dZ _ _ U hh2.1.row kR [.slice (pA q7) 33 33] rfl (Js _ _ _) 3 g5 29 kR kR (by (rw [List.length_map]); omega) (by (rw [List.length_map]); simp only [maxLen]; omega) (λr2 hr2=>?_)
   refine sp U<|Sy.nil<|Sy.in_<|Sy.then_<|Sy.region<|sS (iZ (k2+1)) (qad U U U)<|sp U<|Sy.nil ?_
   exact Sy.againT ((r2,y2.2.1++[(q7,166,((Ay (dec (X k1 k2) (Y k1 k2) (I k1 k2))).map bv).toArray)],y2.2.2++[(⟨some ⟨q7,0,none⟩,Ay (dec (X k1 k2) (Y k1 k2) (I k1 k2)),33⟩:Sh.Tx)])) om (⟨hh2.1.add _ _ hr2 (VD (Ai _)) (O' (by rw [Ai]; decide) dZ),by rw [I7,hh2.2.1,List.append_assoc,List.append_assoc,List.cons_append]; rfl,by rw [List.length_append,List.length_singleton]; omega⟩) ZL (λw hw=>Sy.St.pick2 (pre:=[(g0,132,(Bj none 0 0 (List.replicate 32 (0:UInt8))).toArray),(g4,37,(pcs (X k1 k2) (Y k1 k2) (I k1 k2))),(q7,166,((Ay (dec (X k1 k2) (Y k1 k2) (I k1 k2))).map bv).toArray),(g5,29,#[.slice (pA q7) 33 33])]) (M:=[(g0,132,(Bj none 0 0 (List.replicate 32 (0:UInt8))).toArray)]) (N:=[(q7,166,((Ay (dec (X k1 k2) (Y k1 k2) (I k1 k2))).map bv).toArray)]) [0,2] dZ kR hw)
end Cu
end
section
namespace Sy
open Go.RowKit
section
variable {P:Program} {w0:Base} {n:Nat} {Q:Exit→Act→World→Prop} {F:AO} {L pre T:AC} {ops:Array Oper} {o:Oper} {l:List Oper}
theorem appendZ (hg:Bv ops n F o=true) (ts tn e:TypeId) (inf:TypeInfo) (z:Value) (sz by_:Nat) (ht:P.underlying ts=some (.slice e)) (htn:P.underlying tn=some (.int .i64)) (hinf:P.info? e=some inf) (hz:inf.zero=some z) (hs1:inf.size=sz) (hb1:inf.bytes=by_) (hzs:z.cells.size=sz) (h0:0<sz)
  (s x:Operand) (ho:o.op=.call { callee:=.builtin .append,args:=#[s,x],argTypes:=#[ts,tn] }) (hs:evF F s=.slice none 0 0) (m:Nat) (hm0:0<m) (hx:evF F x=.int .i64 (m:Int)) (hsmall:m*by_≤140737488355328) (h63:m≤maxLen)
  (h:∀ (g cap:Nat) (cs:List Value),cs.length=cap*sz→m≤cap→cap≤maxLen→wpS P w0 n ops Q (Bo F o.dst (.slice (pA g) m cap)) (L++[(g,e,cs.toArray)]) l):wpS P w0 n ops Q F L (o::l):=λa w ha hw=>by
 obtain ⟨k1,_,k3,_⟩:=AQ hg
 refine wpList_step λK hK=>?_
 rw [if_pos (ha.wanted k1)]
 have h63':(m:Int)≤9223372036854775807:=by simp only [maxLen] at h63; omega
 have hr:=Lib.run_append_nil_zeros (P:=P) w ts tn o.type e inf z .i64 .i64 ht htn hinf hz m hm0 om h63' (by rw [hb1]; omega)
 have hc1:=grownCap_ge w m 0 e
 have hc2:=grownCap_le_maxLen w m 0 e h63
 unfold Oper.wp
 rw [Ao hg ha]
 unfold execOp
 simp only [ho,resolve,invoke,builtin,Sem.run_bind,Sem.run_pure,Result.andThen_ok,List.map_toArray,List.map_cons,List.map_nil,hs,hx,hr]
 have hgr:Gr w (w.drew.alloc (.cells (Builtin.zeroCells z.cells m++Builtin.zeroCells z.cells (grownCap w m 0 e - m)) e)):=(show Gr w w.drew from (Below.refl _ _).drew).trans (BK _ _)
 exact hK _ _ (h w.heap.size (grownCap w m 0 e) (Builtin.zeroCells z.cells m++Builtin.zeroCells z.cells (grownCap w m 0 e - m)).toList (by
  rw [Array.length_toList,Array.size_append,size_zeroCells,size_zeroCells,hzs, ← Nat.add_mul]
  congr 1
  omega) hc1 hc2 _ _ (ha.put k3 _) (hw.add hgr (Nat.le_refl _) (Blk.new w.drew e _)))
theorem appendM (hg:Bv ops n F o=true) (ts e:TypeId) (inf:TypeInfo) (z:Value) (sz by_:Nat) (ht:P.underlying ts=some (.slice e)) (hinf:P.info? e=some inf) (hz:inf.zero=some z) (hs1:inf.size=sz) (hb1:inf.bytes=by_) (hzs:z.cells.size=sz) (h0:0<sz)
  (s x:Operand) (ho:o.op=.call { callee:=.builtin .append,args:=#[s,x],argTypes:=#[ts,ts] })
  {r:Slc} {xs ys:List (List Value)} (hr:r.Is e sz xs) (hs:evF F s=r.v) (hy:∀ y∈ys,y.length=sz) (hy1:∀ y∈ys, ∀ u∈y,u.oneCell'=true)
  (A:Option Addr) (m c:Nat) (hm:ys.length=m) (hmc:m≤c) (hx:evF F x=.slice A m c) (hf:∀ r:Slc,From w0 (pre++(r.bl++T)) A ys.flatten) (hsmall:(xs.length+m)*by_≤140737488355328) (h63:xs.length+m≤maxLen)
  (h:∀ r':Slc,r'.Is e sz (xs++ys)→wpS P w0 n ops Q (Bo F o.dst r'.v) (pre++(r'.bl++T)) l):wpS P w0 n ops Q F (pre++(r.bl++T)) (o::l):=by
 have hlen:∀ u∈xs++ys,u.length=sz:=λu hu=>(List.mem_append.1 hu).elim (hr.len u) (hy u)
 have hone:∀ u∈xs++ys, ∀ v∈u,v.oneCell'=true:=λu hu=>(List.mem_append.1 hu).elim (hr.one u) (hy1 u)
 have hyl:ys.flatten.length=m*sz:=by rw [Es hy,hm]
 have hyo:∀ u∈ys.flatten,u.oneCell'=true:=λu hu=>by
  obtain ⟨y,h1,h2⟩:=List.mem_flatten.1 hu
  exact hy1 y h1 u h2
 rcases hr.row with ⟨rfl,rfl⟩ | ⟨g,cap,sp,rfl,q1,q2,q3⟩
 ·rcases Nat.eq_zero_or_pos m with rfl | hm0
  ·obtain rfl:ys=[]:=List.eq_nil_of_length_eq_zero hm
   intro a w ha hw
   obtain ⟨k1,_,k3,_⟩:=AQ hg
   refine wpList_step λK hK=>?_
   rw [if_pos (ha.wanted k1)]
   have hfc:(Builtin.firstCells inf.size 0 (.slice A 0 c)).run P w=.ok #[] w:=by
    cases A with
    | none=>simp [Builtin.firstCells,Sem.run_pure]
    | some a=>simpa using run_firstCells_some (P:=P) w inf.size 0 a 0 c [] (by simp) (λj u hj=>by cases hj)
   have hrn:(Builtin.append_ #[ts,ts] o.type #[.slice none 0 0,.slice A 0 c]).run P w=.ok (.slice none 0 0) w:=by
    simp [Builtin.append_,run_underlying ht,sizeOf,typeInfo,hinf,Builtin.lenOf,hfc]
   unfold Oper.wp
   rw [Ao hg ha]
   unfold execOp
   simp only [ho,resolve,invoke,builtin,Sem.run_bind,Sem.run_pure,Result.andThen_ok,List.map_toArray,List.map_cons,List.map_nil,hs,hx,hrn]
   exact hK _ _ (h nilS (Slc.Is.nil e sz) _ _ (ha.put k3 _) hw)
  ·refine KL hg ts e inf z sz by_ ht hinf hz hs1 hb1 hzs h0 s x ho hs A m c ys.flatten hx (hf _) hyl hm0 hyo (by simpa using hsmall) (by simpa using h63) (λg' cap' sp' h1 h2 h3=>?_)
   have hq:=h ⟨.slice (some ⟨g',0,none⟩) m cap',[(g',e,(ys.flatten++sp').toArray)]⟩ ⟨hlen,hone,.inr ⟨g',cap',sp',by simp [hm],by simpa [hm] using h1,by simpa [hm] using h2,h3⟩⟩
   exact permS (by
    rw [List.nil_append,List.append_assoc]
    exact (List.perm_append_comm (l₁:=T) (l₂:=[(g',e,(ys.flatten++sp').toArray)])).append_left pre) hq
 ·have hi:(pre++([(g,e,(xs.flatten++sp).toArray)]++T))[pre.length]? = some (g,e,(xs.flatten++sp).toArray):=by
   rw [List.getElem?_append_right (Nat.le_refl _),Nat.sub_self]
   rfl
  refine Qx hg ts e inf z sz by_ ht hinf hz hs1 hb1 hzs h0 s x ho pre.length g xs.length cap xs.flatten sp hs hi (Es hr.len) q1 q3 A m c ys.flatten hx (hf ⟨.slice none 0 0,[(g,e,(xs.flatten++sp).toArray)]⟩) hyl hmc hyo hsmall h63 (λg' cap' sp' h1 h2 h3=>?_)
  have hq:=h ⟨.slice (some ⟨g',0,none⟩) (xs.length+m) cap',[(g',e,(xs.flatten++ys.flatten++sp').toArray)]⟩ ⟨hlen,hone,.inr ⟨g',cap',sp',by simp [hm],by simpa [hm] using h1,by simpa [hm] using h2,h3⟩⟩
  have he:(pre++([(g,e,(xs.flatten++sp).toArray)]++T)).set pre.length (g',e,(xs.flatten++ys.flatten++sp').toArray)=pre++([(g',e,(xs.flatten++ys.flatten++sp').toArray)]++T):=by
   rw [List.set_append_right _ _ (Nat.le_refl _),Nat.sub_self]
   rfl
  rw [he]
  exact hq
end
theorem From.lst {w0:Base} {L:AC} {s m:Nat} {A:Option Addr} {f:Nat→List Value} (hl:Lst w0.world s A m f) (hf:∀ k,(f k).length=s):From w0 L A ((List.range m).map f).flatten:=λw hw=>by
 rcases Nat.eq_zero_or_pos m with rfl | hm
 ·exact .inl U
 obtain ⟨g,o,q⟩:=hl
 obtain ⟨rfl,h2,h3⟩:=q hm
 refine .inr ⟨_,rfl,λj u hj=>?_⟩
 rw [Bm]
 refine (hw.below.cell (p:=⟨g,o+j,none⟩) h2).trans ?_
 clear q
 induction m with
 | zero=>simp at hj
 | succ k ih =>
  rw [List.range_succ,List.map_append,List.flatten_append,List.map_singleton,List.flatten_singleton] at hj
  have hlen:((List.range k).map f).flatten.length=k*s:=by
   rw [Es (sz:=s) (λx hx=>by obtain ⟨i,_,rfl⟩:=List.mem_map.1 hx; exact hf i),List.length_map,List.length_range]
  by_cases hjk:j<k*s
  ·rw [List.getElem?_append_left om] at hj
   exact ih (Nat.pos_of_ne_zero λh=>by subst h; simp at hjk) (λi hi=>h3 i om) hj
  ·rw [List.getElem?_append_right om,hlen] at hj
   have:=h3 k om (j - k*s) u hj
   rwa [show o+k*s+(j - k*s)=o+j by omega] at this
theorem retGM {P:Program} {w1:World} {n:Nat} {F:AO} {L:AC} {fn:Func} {r:ResultVar} {v:Value} {R:Value→AC→Prop} (M:AC) (hr:fn.results=#[r]) (h:Has P F L r v) (hM:∀ w,St (Base.of w1) w L→St (Base.of w1) w M) (hR:R v M):X (Base.of w1) n (bodyPost P fn (GetsN w1 R)) F L .ret:=λa w ha hw=>by
 refine bodyPost_ret (v:=v) ?_ ha.1 ⟨v,M,rfl,hR,hw.below,λg t cs hm=>(hM w hw).blk g t cs hm,(hM w hw).apart⟩
 rcases Res.run h ha hw with ⟨t,rfl,e1⟩ | ⟨t,ty,ad,rfl,e1,e2⟩ <;> simp [results,Result.andThen, *]
def DO (e:TypeId) (sz:Nat) (xs:List (List Value)) (v:Value) (M:AC):Prop:=∃ y:Slc,y.Is e sz xs∧v=y.v∧M=y.bl
end Sy
end
section
namespace Cu
open Go.RowKit Sy
def Bq (n:Nat→Nat):Nat→Nat
 | 0=>0
 | k+1=>Bq n k+n k
theorem DT (n:Nat→Nat):∀ {k m:Nat},k≤m→Bq n k≤Bq n m
 | k,0,h=>by rw [Nat.le_zero.1 h]; exact Nat.le_refl _
 | k,m+1,h=>by
  rcases Nat.lt_or_eq_of_le h with h1 | h1
  ·exact Nat.le_trans (DT n (Nat.le_of_lt_succ h1)) (Nat.le_add_right _ _)
  ·rw [h1]; exact Nat.le_refl _
def KG (n:Nat→Nat) (f:Nat→Nat→List Value):Nat→List (List Value)
 | 0=>[]
 | k+1=>KG n f k++(List.range (n k)).map (f k)
theorem F8 (n:Nat→Nat) (f:Nat→Nat→List Value):∀ k,(KG n f k).length=Bq n k
 | 0=>rfl
 | k+1=>by
  show (KG n f k++_).length=Bq n k+n k
  rw [List.length_append,F8 n f k,List.length_map,List.length_range]
theorem Rx (w:World) (q:Nat) (hq:q≤1000000):AY 240 #[.slice none 0 0,iZ q] w (GetsN w (DO 29 1 [])):=by
 refine Sy.enter (args:=[.slice none 0 0,iZ q]) Tryz.func240 U kL<|sC<|sp U<|sG<|Sy.seq<|sC<|sp U ?_
 obtain ⟨b1,hb1⟩:=xE (decide (q<0))
 refine sS (.bool b1) (qls U U U hb1)<|sG ?_
 cases b1
 ·have lb1:=dN hb1
  refine sU<|Sy.skip<|Sy.then_<|Sy.seq<|sC<|sp U<|sp U<|sP (.int .i64 0)<|sp U<|sP (.int .i64 0)<|sP (.int .i64 0)<|sS (iZ q) (qsb U U U)<|sp U<|sA<|sp U ?_
  obtain ⟨b2,hb2⟩:=xE (decide (q>0))
  refine sS (.bool b2) (qgt U U U hb2)<|sG ?_
  cases b2
  ·have lb2:=dN hb2
   refine sU<|Sy.skip<|sB<|sp U<|sp U<|sG<|Sy.ret ?_
   exact retGM [] rfl (v:=.slice none 0 0) (.inl (show _=_ by kernel_rfl)) (λ_ hw=>hw) ⟨nilS,Slc.Is.nil _ _,rfl,rfl⟩
  ·have lb2:=dY hb2
   refine sT<|Sy.region<|sp U<|sp U<|sP (.int .i64 0)<|sP (.slice none 0 0)<|sp U<|Sy.appendZ kR 58 3 29 _ _ 1 24 Ik uy3 GO U U U U dZ _ _ U U q om U om (by simp only [maxLen]; omega) (λgz cz zs hz1 hz2 hz3=>?_)
   refine sp U<|sP (.int .i64 0)<|sS (.slice (pA gz) 0 cz) (Quiet.pure (Et 58 _ _ gz 0 q cz 0 1 .i64 U U U Ik kF (Nat.zero_le _)))<|sp U<|sA<|sp U<|sp U<|sG<|Sy.ret ?_
   exact retGM [(gz,29,zs.toArray)] rfl (v:=.slice (pA gz) 0 cz) (.inl (show _=_ by kernel_rfl)) (λ_ hw=>hw) ⟨⟨.slice (pA gz) 0 cz,[(gz,29,zs.toArray)]⟩,Slc.Is.mk' (by simp) (by simp) rfl (by simp) hz1 (Nat.zero_le _) hz3,rfl,rfl⟩
 ·have lb1:=dY hb1
  exact absurd lb1 om
theorem N4 (w:World) (T:Option Addr) (N d:Nat) (a:Nat→Option Addr) (n c:Nat→Nat) (f:Nat→Nat→List Value) (hf1:∀ i k,(f i k).length=1) (hf2:∀ i k, ∀ u∈f i k,u.oneCell'=true) (hN:N≤1000000) (hs:Bq n N≤1000000) (hnc:∀ i,i<N→n i≤c i) (hlt:Lst w 1 T N (λi=>[.slice (a i) (n i) (c i)])) (hl:∀ i,i<N→Lst w 1 (a i) (n i) (f i)):AY 218 #[.slice T N d] w (GetsN w (DO 29 1 (KG n f N))):=by
 obtain ⟨gT,oT,hT⟩:=hlt
 refine Sy.enter (args:=[.slice T N d]) Tryz.func218 U kL<|sC<|sp U<|sA<|sp U<|sG<|Sy.seq<|sC<|sp U<|sP (iZ N)<|sp U<|sG<|Sy.block<|Sy.loopK N (λk1=>[(0,.slice T N d),(3,iZ ((Bq n k1))),(9,.slice T N d),(10,iZ N),(11,iZ k1)]) (λk1=>[]) [] (M:=[]) ac5 kR U (λk1 hk1=>?_)
 refine sC ?_
 obtain ⟨b1,hb1⟩:=xE (decide (k1<N))
 refine sS (.bool b1) (qls U U U hb1)<|sG<|Sy.seq ?_
 cases b1
 ·have lb1:=dN hb1
  refine sU<|Sy.exit<|Sy.then_exit<|Sy.then_exit ?_
  obtain rfl:N=k1:=om
  refine Sy.in_exit<|sB<|sp U<|Sy.callN kR 240 #[.slice none 0 0,iZ ((Bq n N))] kF (DO 29 1 []) (λw hw=>Rx w _ om) (λvq Mq hR0=>?_)
  obtain ⟨y0,hy0,rfl,rfl⟩:=hR0
  refine sp U<|sG<|Sy.seq<|sC<|sp U<|sP (iZ N)<|sp U<|sG<|Sy.block<|Sy.loopT (Y:=Slc) N (λk1 y1=>[(0,.slice T N d),(6,y1.v),(25,.slice T N d),(26,iZ N),(27,iZ k1)]) (λk1 y1=>[]++(y1.bl++[])) (λk1 y1=>y1.Is 29 1 (KG n f k1)) y0 hy0 ac5 (λw hw=>by simpa using hw) (λk1 y1 hk1 hh1=>?_)
  refine sC ?_
  obtain ⟨b2,hb2⟩:=xE (decide (k1<N))
  refine sS (.bool b2) (qls U U U hb2)<|sG<|Sy.seq ?_
  cases b2
  ·have lb2:=dN hb2
   refine sU<|Sy.exit<|Sy.then_exit<|Sy.then_exit ?_
   obtain rfl:N=k1:=om
   refine Sy.in_exit<|sB<|sp U<|sp U<|sG<|Sy.ret ?_
   exact retGM y1.bl rfl (v:=y1.v) (.inl (show _=_ by kernel_rfl)) (λ_ hw=>by simpa using hw) ⟨y1,hh1,rfl,rfl⟩
  ·have lb2:=dY hb2
   have hsk:Bq n k1+n k1≤Bq n N:=DT n (show k1+1≤N by omega)
   refine sT<|Sy.skip<|Sy.then_<|Sy.seq<|Sy.block<|sC<|sS (.pointer (some ⟨gT,oT+k1*1,none⟩)) (Quiet.pure (Af 286 _ _ _ T gT oT N d k1 1 .i64 (hT om).1 U U U XP kF om))<|sS (.slice (a k1) (n k1) (c k1)) (Quiet.thereOne gT (oT+k1*1) 58 _ _ U kR (hT om).2.1 _ (Ar ((hT om).2.2 k1 om) 0 U) Ik U)<|sp U<|sG<|Sy.region<|sp U<|sp U<|Sy.appendM kR 58 29 _ _ 1 24 Ik GO U U U U dZ _ _ U (ys:=(List.range (n k1)).map (f k1)) hh1 kR (λz hz=>by obtain ⟨i,_,rfl⟩:=List.mem_map.1 hz; exact hf1 _ _) (λz hz=>by obtain ⟨i,_,rfl⟩:=List.mem_map.1 hz; exact hf2 _ _) (a k1) (n k1) (c k1) (by rw [List.length_map,List.length_range]) (hnc k1 om) kR (λ_=>From.lst (hl k1 om) (hf1 k1)) (by rw [F8]; omega) (by rw [F8]; simp only [maxLen]; omega) (λr1 hr1=>?_)
   refine sp U<|Sy.nil<|Sy.in_<|Sy.then_<|Sy.region<|sS (iZ (k1+1)) (qad U U U)<|sp U<|Sy.nil ?_
   exact Sy.againT r1 om hr1 ac5 (λw hw=>hw)
 ·have lb1:=dY hb1
  have hsk:Bq n k1+n k1≤Bq n N:=DT n (show k1+1≤N by omega)
  refine sT<|Sy.skip<|Sy.then_<|Sy.seq<|Sy.block<|sC<|sS (.pointer (some ⟨gT,oT+k1*1,none⟩)) (Quiet.pure (Af 286 _ _ _ T gT oT N d k1 1 .i64 (hT om).1 U U U XP kF om))<|sS (.slice (a k1) (n k1) (c k1)) (Quiet.thereOne gT (oT+k1*1) 58 _ _ U kR (hT om).2.1 _ (Ar ((hT om).2.2 k1 om) 0 U) Ik U)<|sp U<|sA<|sp U<|sp U<|sP (iZ ((n k1)))<|sS (iZ ((Bq n k1)+(n k1))) (qad U U U)<|sp U<|sA<|sp U ?_
  obtain ⟨b3,hb3⟩:=xE (decide ((Bq n k1)+(n k1)<0))
  refine sS (.bool b3) (qls U U U hb3)<|sG ?_
  cases b3
  ·have lb3:=dN hb3
   refine sU<|Sy.skip<|Sy.in_<|Sy.then_<|Sy.region<|sS (iZ (k1+1)) (qad U U U)<|sp U<|Sy.nil ?_
   exact Sy.againK [] (M:=[]) om ac5 kR U
  ·have lb3:=dY hb3
   exact absurd lb3 om
theorem B4 {R:Option Addr} {NR cR:Nat} {bm:AF} (h:bm.length=32):Value.agg ((((Bj R NR cR bm).toArray).toList.drop 0).take 33).toArray=CK R NR cR bm:=by
 unfold CK
 rw [List.drop_zero,List.take_of_length_le (by show (Bj R NR cR bm).length≤33; simp [Bj,h])]
theorem CY {R:Option Addr} {NR cR:Nat} {bm:AF} (h:bm.length=32):0+33≤((Bj R NR cR bm).toArray).size:=by simp [Bj,h]
def alX (s:Nat→Nat) (bm:AF) (i f:Nat) (X Y:Nat→Nat) (I:Nat→Bool) (x:AF):Nat→List UInt8
 | 0=>x
 | k+1=>Ay (rPt (s (f+k)) (rgC bm (alX s bm i f X Y I x k) i (f+k)) (X (f+k)) (Y (f+k)) (I (f+k)))
theorem I_ {s:Nat→Nat} {bm:AF} {i f k:Nat} {X Y:Nat→Nat} {I:Nat→Bool} {x:AF} (hk:0<k):(alX s bm i f X Y I x k).length=33:=by
 cases k with
 | zero=>exact absurd hk (Nat.lt_irrefl _)
 | succ k=>exact Ai _
def AlS (A:Option Addr) (n c:Nat) (e:TypeId) (l:AF) (k:Nat) (y:Value×AC):Prop:=(k=0∧y=(.slice A n c,[]))∨(0<k∧∃ q,y=(.slice (pA q) 33 33,[(q,e,(l.map bv).toArray)]))
def AlR (A:Option Addr) (n c M:Nat) (l:AF) (v:Value) (L:AC):Prop:=(M=0∧v=.slice A n c∧L=[])∨(0<M∧∃ q,v=.slice (pA q) 33 33∧L=[(q,166,(l.map bv).toArray)])
theorem Zh {w1:World} {n:Nat} {F:AO} {L:AC} {fn:Func} {r:ResultVar} {v:Value} {R:Value→AC→Prop} (hr:fn.results=#[r]) (h:Sy.Has Tryz.prog F L r v) (hR:R v []):Sy.X (Sy.Base.of w1) n (bodyPost Tryz.prog fn (Sy.GetsN w1 R)) F L .ret:=λa w ha hw=>by
 refine bodyPost_ret (v:=v) ?_ ha.1 ⟨v,[],rfl,hR,hw.below,λg t cs hm=>(by cases hm),by simp⟩
 rcases Sy.Res.run h ha hw with ⟨t,rfl,e1⟩ | ⟨t,ty,ad,rfl,e1,e2⟩ <;> simp [results,Result.andThen, *]
theorem KM (w:World) (R:Option Addr) (NR cR:Nat) (a:Nat→Option Addr) (nk ck:Nat→Nat) (X Y:Nat→Nat→Nat) (I:Nat→Nat→Bool) (hX:∀ i k,X i k<K4) (hY:∀ i k,Y i k<K4) (hNR:NR≤4611686018427387904) (hnk:∀ i,nk i≤4611686018427387904) (hlr:Lst w 1 R NR (λi=>[.slice (a i) (nk i) (ck i)])) (hlk:∀ i,i<NR→Lst w 9 (a i) (nk i) (λk=>pml (X i k) (Y i k) (I i k))) (bm:AF) (hbm:bm.length=32) (A:Option Addr) (x:AF) (n c:Nat) (hx:x.length=n) (hm:n≤999999900) (hc:n≤c) (hc2:c≤9223372036854775807) (hs0:Sh.Src w A x) (W:Option Addr) (NW cW:Nat) (s:Nat→Nat) (hsc:∀ k,s k<K4) (hlw:Lst w 4 W NW (λk=>fws (s k))) (i f M:Nat) (hi:i<NR) (hi2:i<256) (hM:f+M≤256) (hM1:f+M≤NW) (hM2:f+M≤nk i) (ht:Sh.TabAt w 1):AY 189 #[CK R NR cR bm,.slice A n c,.slice W NW cW,iZ i,iZ f,iZ ((f+M))] w (GetsN w (AlR A n c M (alX s bm i f (X i) (Y i) (I i) x M))):=by
 obtain ⟨gR,oR,hR⟩:=hlr
 obtain ⟨gW,oW,hW⟩:=hlw
 obtain ⟨gK,oK,hT⟩:=hlk i hi
 refine Sy.enter (args:=[CK R NR cR bm,.slice A n c,.slice W NW cW,iZ i,iZ f,iZ ((f+M))]) Tryz.func189 U kL<|sC<|sM 132 (Bj R NR cR bm).toArray (λg0=>?_)
 refine sp U<|sG<|Sy.seq<|sC<|sp U<|sp U<|sG<|Sy.block<|Sy.loopT (Y:=Value×AC) M (λk1 y1=>[(1,y1.1),(2,.slice W NW cW),(3,iZ i),(5,iZ ((f+M))),(6,pT g0 0),(13,iZ ((f+k1)))]) (λk1 y1=>[(g0,132,(Bj R NR cR bm).toArray)]++y1.2) (λk1 y1=>AlS A n c 166 (alX s bm i f (X i) (Y i) (I i) x k1) k1 y1) (.slice A n c,[]) (.inl ⟨rfl,rfl⟩) ac6 (λw hw=>hw) (λk1 y1 hk1 hh1=>?_)
 obtain ⟨xk,hxk⟩:=xE (alX s bm i f (X i) (Y i) (I i) x k1)
 rw [← hxk] at hh1
 rcases hh1 with ⟨hk0,rfl⟩ | ⟨hk0,q0,rfl⟩
 ·have exk:xk=x:=by rw [hxk,hk0]; rfl
  refine Sy.seq<|sC<|sp U<|sp U ?_
  obtain ⟨b1,hb1⟩:=xE (decide ((f+k1)<(f+M)))
  refine sS (.bool b1) (qls U U U hb1)<|sG ?_
  cases b1
  ·have lb1:=dN hb1
   refine sU<|Sy.exit<|Sy.then_exit<|Sy.then_exit ?_
   obtain rfl:M=k1:=om
   refine Sy.in_exit<|sB<|sp U<|sp U<|sG<|Sy.ret ?_
   exact Zh U (v:=.slice A n c) (.inl (show _=_ by kernel_rfl)) (.inl ⟨hk0,rfl,rfl⟩)
  ·have lb1:=dY hb1
   refine sT<|Sy.skip<|Sy.then_<|Sy.seq<|Sy.block<|Sy.regionD (λj=>false) kR<|sz 0 U U<|sz 1 U U<|sD 2 U (.pointer (some ⟨gW,oW+(f+k1)*4,none⟩)) (Quiet.pure (Af 117 _ _ _ W gW oW NW cW (f+k1) 4 .i64 (hW om).1 U U U CU kF om))<|sD 3 U (fv (s ((f+k1)))) (Quiet.there gW (oW+(f+k1)*4) 4 26 (fws (s ((f+k1)))) _ _ U kR (hW om).2.1 ((hW om).2.2 (f+k1) om) Au U kR U _ U)<|sD 4 U (CK R NR cR bm) (qx 0 0 33 U U EP (B4 hbm) (CY hbm))<|sz 5 U U<|sz 6 U U<|sz 7 U U<|sD 8 U (fv (rgC bm xk i (f+k1))) (qg (λw hw=>by rw [exk]; exact GR w R NR cR bm hbm A x n c hx hm hc hc2 (hs0.below hw.below) i (f+k1) om om (ht.below hw.below ht.lt)))<|sZ 9 U (pT g0 0)<|sD 10 U (.slice R NR cR) (qy 0 0 U U D0 kR)<|sz 11 U U<|sD 12 U (.pointer (some ⟨gR,oR+i*1,none⟩)) (Quiet.pure (Af 73 _ _ _ R gR oR NR cR i 1 .i64 (hR om).1 U U U D0 kF om))<|sD 13 U (.slice (a i) (nk i) (ck i)) (Quiet.thereOne gR (oR+i*1) 54 _ _ U kR (hR om).2.1 _ (Ar ((hR om).2.2 i om) 0 U) CE U)<|sz 14 U U<|sD 15 U (.pointer (some ⟨gK,oK+(f+k1)*9,none⟩)) (Quiet.pure (Af 54 _ _ _ (a i) gK oK (nk i) (ck i) (f+k1) 9 .i64 (hT om).1 U U U CE kF om))<|sD 16 U (pv (X i (f+k1)) (Y i (f+k1)) (I i (f+k1))) (Quiet.there gK (oK+(f+k1)*9) 9 37 (pml (X i (f+k1)) (Y i (f+k1)) (I i (f+k1))) _ _ U kR (hT om).2.1 ((hT om).2.2 (f+k1) om) AX U kR U _ U)<|Sy.callND 17 U kR kR 158 #[fv (s ((f+k1))),fv (rgC bm xk i (f+k1)),pv (X i (f+k1)) (Y i (f+k1)) (I i (f+k1))] kF ((Dk (rPt (s (f+k1)) (rgC bm xk i (f+k1)) (X i (f+k1)) (Y i (f+k1)) (I i (f+k1))))) (λw hw=>Gt w _ _ _ _ _ (hsc _) (IA _ _ _ _) (hX _ _) (hY _ _)) (λvq Mq hR0=>?_)
   obtain ⟨q7,rfl,rfl⟩:=hR0
   refine sz 18 U U<|sE<|Sy.in_<|Sy.then_<|Sy.region<|sp U<|sS (iZ ((f+k1)+1)) (qad U U U)<|sp U<|Sy.nil ?_
   exact Sy.againT (.slice (pA q7) 33 33,[(q7,166,((Ay (rPt (s (f+k1)) (rgC bm xk i (f+k1)) (X i (f+k1)) (Y i (f+k1)) (I i (f+k1)))).map bv).toArray)]) om (.inr ⟨Nat.succ_pos _,q7,by subst hxk; rfl⟩) ac6 (λw hw=>hw)
 ·have hxl:xk.length=33:=by rw [hxk]; exact I_ hk0
  refine Sy.seq<|sC<|sp U<|sp U ?_
  obtain ⟨b2,hb2⟩:=xE (decide ((f+k1)<(f+M)))
  refine sS (.bool b2) (qls U U U hb2)<|sG ?_
  cases b2
  ·have lb2:=dN hb2
   refine sU<|Sy.exit<|Sy.then_exit<|Sy.then_exit ?_
   obtain rfl:M=k1:=om
   refine Sy.in_exit<|sB<|sp U<|sp U<|sG<|Sy.ret ?_
   exact RR 1 (q0,166,(xk.map bv).toArray) rfl (v:=.slice (pA q0) 33 33) (.inl (show _=_ by kernel_rfl)) kR (.inr ⟨hk0,_,by subst hxk; rfl,by subst hxk; rfl⟩)
  ·have lb2:=dY hb2
   refine sT<|Sy.skip<|Sy.then_<|Sy.seq<|Sy.block<|Sy.regionD (λj=>false) kR<|sz 0 U U<|sz 1 U U<|sD 2 U (.pointer (some ⟨gW,oW+(f+k1)*4,none⟩)) (Quiet.pure (Af 117 _ _ _ W gW oW NW cW (f+k1) 4 .i64 (hW om).1 U U U CU kF om))<|sD 3 U (fv (s ((f+k1)))) (Quiet.there gW (oW+(f+k1)*4) 4 26 (fws (s ((f+k1)))) _ _ U kR (hW om).2.1 ((hW om).2.2 (f+k1) om) Au U kR U _ U)<|sD 4 U (CK R NR cR bm) (qx 0 0 33 U U EP (B4 hbm) (CY hbm))<|sz 5 U U<|sz 6 U U<|sz 7 U U<|sD 8 U (fv (rgC bm xk i (f+k1))) (qg (λw hw=>GR w R NR cR bm hbm (pA q0) xk 33 33 hxl dZ dZ dZ (Sh.Src.of_blk (hw.get (i:=1) rfl)) i (f+k1) om om (ht.below hw.below ht.lt)))<|sZ 9 U (pT g0 0)<|sD 10 U (.slice R NR cR) (qy 0 0 U U D0 kR)<|sz 11 U U<|sD 12 U (.pointer (some ⟨gR,oR+i*1,none⟩)) (Quiet.pure (Af 73 _ _ _ R gR oR NR cR i 1 .i64 (hR om).1 U U U D0 kF om))<|sD 13 U (.slice (a i) (nk i) (ck i)) (Quiet.thereOne gR (oR+i*1) 54 _ _ U kR (hR om).2.1 _ (Ar ((hR om).2.2 i om) 0 U) CE U)<|sz 14 U U<|sD 15 U (.pointer (some ⟨gK,oK+(f+k1)*9,none⟩)) (Quiet.pure (Af 54 _ _ _ (a i) gK oK (nk i) (ck i) (f+k1) 9 .i64 (hT om).1 U U U CE kF om))<|sD 16 U (pv (X i (f+k1)) (Y i (f+k1)) (I i (f+k1))) (Quiet.there gK (oK+(f+k1)*9) 9 37 (pml (X i (f+k1)) (Y i (f+k1)) (I i (f+k1))) _ _ U kR (hT om).2.1 ((hT om).2.2 (f+k1) om) AX U kR U _ U)<|Sy.callND 17 U kR kR 158 #[fv (s ((f+k1))),fv (rgC bm xk i (f+k1)),pv (X i (f+k1)) (Y i (f+k1)) (I i (f+k1))] kF ((Dk (rPt (s (f+k1)) (rgC bm xk i (f+k1)) (X i (f+k1)) (Y i (f+k1)) (I i (f+k1))))) (λw hw=>Gt w _ _ _ _ _ (hsc _) (IA _ _ _ _) (hX _ _) (hY _ _)) (λvq Mq hR0=>?_)
   obtain ⟨q7,rfl,rfl⟩:=hR0
   refine sz 18 U U<|sE<|Sy.in_<|Sy.then_<|Sy.region<|sp U<|sS (iZ ((f+k1)+1)) (qad U U U)<|sp U<|Sy.nil ?_
   exact Sy.againT (.slice (pA q7) 33 33,[(q7,166,((Ay (rPt (s (f+k1)) (rgC bm xk i (f+k1)) (X i (f+k1)) (Y i (f+k1)) (I i (f+k1)))).map bv).toArray)]) om (.inr ⟨Nat.succ_pos _,q7,by subst hxk; rfl⟩) ac6 (λw hw=>(St.pick (T:=[]) (pre:=[(g0,132,(Bj R NR cR bm).toArray),(q0,166,(xk.map bv).toArray),(q7,166,((Ay (rPt (s (f+k1)) (rgC bm xk i (f+k1)) (X i (f+k1)) (Y i (f+k1)) (I i (f+k1)))).map bv).toArray)]) (M:=[(g0,132,(Bj R NR cR bm).toArray),(q7,166,((Ay (rPt (s (f+k1)) (rgC bm xk i (f+k1)) (X i (f+k1)) (Y i (f+k1)) (I i (f+k1)))).map bv).toArray)]) [0,2] dZ kR hw))
def rgT (bm l:AF):List UInt8:=Sh.taggedS rgFirst.data.toList (bm++l)
theorem Lv (bm l:AF):(rgT bm l).length=32:=Dd _ _
theorem W7 {w:World} {g3 g2:Nat} {t3 t2:TypeId} {x:Sh.Tx} {xv:Value} {E:Option Addr} {NE cE:Nat} {ts:List Sh.Tx} (hx:x.val=xv) (h3:Blk w g3 t3 #[.slice (pA g2) 1 1,.slice E NE cE]) (h2:Blk w g2 t2 #[xv]) (hT:Sh.Texts w E ts) (hn:ts.length=NE) (hc:NE≤cE) (hN:NE≤100000) :
  Calls Tryz.prog 218 #[.slice (pA g3) 2 2] w (GetsN w (DO 29 1 ((x::ts).map λt=>[t.val]))):=by
 subst hn
 have q:=N4 w (pA g3) 2 2 (λi=>if i=0 then some ⟨g2,0,none⟩ else E) (λi=>if i=0 then 1 else ts.length) (λi=>if i=0 then 1 else cE) (λi k=>if i=0 then [xv] else [(ts.getD k x).val]) (λi k=>by split <;> rfl) (λi k u hu=>by
  skip
  split at hu
  ·rw [List.mem_singleton.1 hu, ← hx]; rfl
  ·rw [List.mem_singleton.1 hu]; rfl) dZ (by simp [Bq]; omega) (λi hi=>by split <;> omega)
  ⟨g3,0,λ_=>⟨rfl,h3.lt,λj hj=>by
   match j,hj with
   | 0,_=>exact CJ h3 U
   | 1,_=>exact CJ h3 U⟩⟩
  (λi hi=>by
   match i,hi with
   | 0,_=>exact ⟨g2,0,λ_=>⟨rfl,h2.lt,λj hj=>by
     obtain rfl:j=0:=by simpa using hj
     exact CJ h2 U⟩⟩
   | 1,_ =>
    by_cases h0:ts=[]
    ·subst h0
     exact ⟨0,0,λh=>absurd h (by simp)⟩
    ·obtain ⟨b,o,e,hlt,hc⟩:=hT h0
     refine ⟨b,o,λ_=>⟨e,hlt,λj hj=>?_⟩⟩
     have hj':j<ts.length:=by simpa using hj
     intro k v hk
     cases k with
     | succ k=>simp at hk
     | zero =>
      have hv:(ts.getD j x).val=v:=by simpa using hk
      rw [← hv,Nat.mul_one,Nat.add_zero]
      exact (hc j _ (by rw [List.getD_eq_getElem?_getD,List.getElem?_eq_getElem hj']; rfl)).1)
 have e:KG (λi=>if i=0 then 1 else ts.length) (λi k=>if i=0 then [xv] else [(ts.getD k x).val]) 2=(x::ts).map λt=>[t.val]:=by
  show ([]++[[xv]])++(List.range ts.length).map (λk=>[(ts.getD k x).val])=_
  rw [List.map_cons,hx,List.nil_append,List.singleton_append]
  refine congrArg _ (List.ext_getElem (by simp) λi h1 h2=>?_)
  have h3:i<ts.length:=by simpa using h1
  rw [List.getElem_map,List.getElem_map,List.getElem_range,List.getD_eq_getElem?_getD,List.getElem?_eq_getElem h3]
  rfl
 rw [e] at q
 exact q
theorem KA (w:World) (R:Option Addr) (NR cR:Nat) (bm:AF) (hbm:bm.length=32) (E:Option Addr) (NE cE:Nat) (ts:List Sh.Tx) (hT:Sh.Texts w E ts) (hok:∀ t∈ts,t.ok w) (hn:ts.length=NE) (hc:NE≤cE) (hN:NE≤100000) (hl9:(Sh.cat ts).length≤999999000) (ht:Sh.TabAt w 1):AY 159 #[CK R NR cR bm,.slice E NE cE] w (Gets w (.agg ((rgT bm (Sh.cat ts)).map bv).toArray)):=by
 refine Sy.enter (args:=[CK R NR cR bm,.slice E NE cE]) Tryz.func159 U kL<|sC<|sM 132 (Bj R NR cR bm).toArray (λg0=>?_)
 refine sM 23 (Zl 32).toArray (λg1=>?_)
 refine sA<|sP (pT g0 1)<|sP (.slice (some ⟨g0,1,none⟩) 32 32)<|Sy.make kR 29 #[.slice (some ⟨g0,1,none⟩) 32 32] (λg=>.slice (pA g) 1 1) kF (λg2=>?_)
 refine sp U<|Sy.make kR 58 #[.slice (pA g2) 1 1,.slice E NE cE] (λg=>.slice (pA g) 2 2) kF (λg3=>?_)
 refine Sy.callN kR 218 #[.slice (pA g3) 2 2] kF (DO 29 1 (((⟨some ⟨g0,1,none⟩,bm,32⟩:Sh.Tx)::ts).map λt=>[t.val])) (λw hw=>W7 (by unfold Sh.Tx.val; rw [hbm]) (hw.get (i:=3) rfl) (hw.get (i:=2) rfl) (hT.below hw.below) hn hc hN) (λvq Mq hR0=>?_)
 obtain ⟨y0,hy0,rfl,rfl⟩:=hR0
 obtain ⟨d0,hd0⟩:=xE (rgT bm (Sh.cat ts))
 have hd1:d0.length=32:=by rw [hd0]; exact Lv _ _
 have hx:TxsIs (Base.of w) 29 y0 [(g0,132,(Bj R NR cR bm).toArray)] ((⟨some ⟨g0,1,none⟩,bm,32⟩:Sh.Tx)::ts):=⟨hy0,λv L hv hb t ht=>by
  rcases List.mem_cons.1 ht with rfl | ht
  ·exact ⟨JP (v:=.slice R NR cR) (hv.blk _ _ _ (hb _ (List.mem_singleton.2 U))).2,by show bm.length≤32; omega,by show 32≤9223372036854775807; decide⟩
  ·exact (hok t ht).below hv.below⟩
 refine sS (.agg (d0.map bv).toArray) (qg (args:=#[.string rgFirst,y0.v]) (λw hw=>by obtain ⟨Q,d,hv,_,_,htx⟩:=hx.texts; rw [hv,hd0]; have q:=Sh.tagged_any w rgFirst Q _ d (htx hw (λb hb=>List.mem_append.2 (.inr hb)) (λb hb=>List.mem_append.2 (.inl (by rw [List.mem_singleton.1 hb]; exact List.mem_of_getElem? (i:=0) rfl)))) (ht.below hw.below ht.lt) dZ (by show (bm++Sh.cat ts).length≤_; rw [List.length_append]; omega) (by rw [List.length_cons]; omega); exact q))<|sw 1 U (d0.map bv).toArray (Writes.store 0 23 (d0.map bv).toArray _ _ U kR kR (by rw [Cm d0 hd1]; kernel_rfl) (by rw [Cm d0 hd1]; exact Nat.le_of_ble_eq_true kR) (EZ _) (FB _ _ (by rw [hd1]; kernel_rfl)))<|Sy.setT<|sG<|Sy.ret ?_
 rw [show (.agg ((rgT bm (Sh.cat ts)).map bv).toArray:Value)=.agg (d0.map bv).toArray from by rw [← hd0]]
 exact Sy.ret1 (v:=.agg (d0.map bv).toArray) rfl (.inl (Res.cell (ty':=23) g1 1 (d0.map bv).toArray _ kR kR Dc U (by rw [Cm d0 hd1]; kernel_rfl) kR))
noncomputable def Z4:TypeInfo:=(Tryz.prog.info? 26).getD default
theorem He:Tryz.prog.info? 26=some Z4:=kZ
noncomputable def Yo:TypeInfo:=(Tryz.prog.info? 117).getD default
theorem J7:Tryz.prog.info? 117=some Yo:=kZ
theorem Eb (k:Nat):∀ u∈fws k,u.oneCell'=true:=I9 _ kR
def fkF (bm sd:AF) (i j:Nat):List Value:=fws (rgF bm sd i j)
theorem PV (w:World) (R:Option Addr) (NR cR:Nat) (a:Nat→Option Addr) (nk ck:Nat→Nat) (X Y:Nat→Nat→Nat) (I:Nat→Nat→Bool) (hX:∀ i k,X i k<K4) (hY:∀ i k,Y i k<K4) (hNR:NR≤4611686018427387904) (hnk:∀ i,nk i≤4611686018427387904) (hlr:Lst w 1 R NR (λi=>[.slice (a i) (nk i) (ck i)])) (hlk:∀ i,i<NR→Lst w 9 (a i) (nk i) (λk=>pml (X i k) (Y i k) (I i k))) (hN32:NR≤32) (hn64:∀ i,i<NR→nk i≤64) (bm:AF) (hbm:bm.length=32) (sd:AF) (hsd:sd.length=32) (ht:Sh.TabAt w 1):AY 186 #[CK R NR cR bm,.agg (sd.map bv).toArray] w (GetsN w (IV 117 26 4 (fkF bm sd) (Ce nk NR 0) NR)):=by
 have hlr0:=hlr
 obtain ⟨gR,oR,hR⟩:=hlr
 refine Sy.enter (args:=[CK R NR cR bm,.agg (sd.map bv).toArray]) Tryz.func186 U kL<|sC<|sM 132 (Bj R NR cR bm).toArray (λg0=>?_)
 refine sM 23 (sd.map bv).toArray (λg1=>?_)
 refine sp U<|sA<|sP (pT g0 0)<|sS (.slice R NR cR) (qy 0 0 U U D0 kR)<|sP (iZ NR)<|Sy.make kR 117 (AL (λ_=>[.slice none 0 0]) NR).toArray (λg=>.slice (pA g) NR NR) (Makes.slice 67 117 _ (.slice none 0 0) 1 24 _ _ .i64 .i64 NR [.slice none 0 0] rfl U U EL J7 kR kR dZ kR kR kR om om) (λg2=>?_)
 refine sp U<|sG<|Sy.seq<|sC<|sP (pT g0 0)<|sS (.slice R NR cR) (qy 0 0 U U D0 kR)<|sP (iZ NR)<|sp U<|sG<|Sy.block<|Sy.loopT (Y:=Nat→Slc) NR (λk1 y1=>[(2,pT g0 0),(3,pT g1 0),(5,.slice (pA g2) NR NR),(14,.slice R NR cR),(15,iZ NR),(16,iZ k1)]) (λk1 y1=>[(g0,132,(Bj R NR cR bm).toArray),(g1,23,(sd.map bv).toArray),(g2,117,(BF y1 NR))]++(Bb y1 NR++[])) (λk1 y1=>RowsAre y1 26 4 (fkF bm sd) (Ce nk k1 0)) (λ_=>nilS) ((RowsAre.nil _ _ _).cnt (IM nk)) ac6 (λw hw=>by rw [H_]; exact hw) (λk1 y1 hk1 hh1=>?_)
 refine sC ?_
 obtain ⟨b1,hb1⟩:=xE (decide (k1<NR))
 refine sS (.bool b1) (qls U U U hb1)<|sG<|Sy.seq ?_
 cases b1
 ·have lb1:=dN hb1
  refine sU<|Sy.exit<|Sy.then_exit<|Sy.then_exit ?_
  obtain rfl:NR=k1:=om
  refine Sy.in_exit<|sB<|sp U<|sp U<|sG<|Sy.ret ?_
  exact retGM ((g2,117,BF y1 NR)::Bb y1 NR) rfl (v:=.slice (pA g2) NR NR) (.inl (show _=_ by kernel_rfl)) (λw hw=>by simpa using St.pick (pre:=[(g0,132,(Bj R NR cR bm).toArray),(g1,23,(sd.map bv).toArray),(g2,117,(BF y1 NR))]) (M:=[(g2,117,BF y1 NR)]) [2] dZ kR hw) ⟨_,y1,rfl,rfl,hh1⟩
 ·have lb1:=dY hb1
  have hnk1:=hn64 k1 lb1
  refine sT<|Sy.skip<|Sy.then_<|Sy.seq<|Sy.block<|sC<|sp U<|sS (.pointer (some ⟨gR,oR+k1*1,none⟩)) (Quiet.pure (Af 73 _ _ _ R gR oR NR cR k1 1 .i64 (hR om).1 U U U D0 kF om))<|sS (.slice (a k1) (nk k1) (ck k1)) (Quiet.thereOne gR (oR+k1*1) 54 _ _ U kR (hR om).2.1 _ (Ar ((hR om).2.2 k1 om) 0 U) CE U)<|sp U<|sp U<|sA<|sp U<|sP (iZ ((nk k1)))<|sp U<|sG<|Sy.block<|Sy.loopT (Y:=Nat→Slc) (nk k1) (λk2 y2=>[(2,pT g0 0),(3,pT g1 0),(5,.slice (pA g2) NR NR),(6,iZ k1),(7,.slice (a k1) (nk k1) (ck k1)),(14,.slice R NR cR),(15,iZ NR),(16,iZ k1),(21,.slice (a k1) (nk k1) (ck k1)),(22,iZ ((nk k1))),(23,iZ k2)]) (λk2 y2=>[(g0,132,(Bj R NR cR bm).toArray),(g1,23,(sd.map bv).toArray),(g2,117,(BF y2 NR))]++(Bb y2 NR++[])) (λk2 y2=>RowsAre y2 26 4 (fkF bm sd) (Ce nk k1 k2)) y1 hh1 ZK (λw hw=>hw) (λk2 y2 hk2 hh2=>?_)
  refine sC ?_
  obtain ⟨b2,hb2⟩:=xE (decide (k2<(nk k1)))
  refine sS (.bool b2) (qls U U U hb2)<|sG<|Sy.seq ?_
  cases b2
  ·have lb2:=dN hb2
   refine sU<|Sy.exit<|Sy.then_exit<|Sy.then_exit ?_
   obtain rfl:k2=nk k1:=om
   refine Sy.in_exit<|Sy.in_<|Sy.then_<|Sy.region<|sS (iZ (k1+1)) (qad U U U)<|sp U<|Sy.nil ?_
   exact Sy.againT y2 om (hh2.cnt (Zz nk k1)) ac6 (λw hw=>hw)
  ·have lb2:=dY hb2
   refine sT<|Sy.skip<|Sy.then_<|Sy.seq<|Sy.block<|sC<|sp U<|sp U<|sG<|Sy.regionD (λj=>j == 12 || j == 14) kR<|Sy.stepDA 0 U kR (λ_ _ _ _ h=>h) kR (.slice (pA g2) NR NR) kF<|Sy.stepDA 1 U kR (λ_ _ _ _ h=>h) kR (iZ k1) kF<|Sy.stepDB 2 [4,5,12,13,14] rfl kR (λ_ _ _ _ h=>h) kR (.slice (pA g2) NR NR) qP<|Sy.stepDB 3 [4,5,12,13,14] rfl kR (λ_ _ _ _ h=>h) kR (iZ k1) qP<|Sy.stepDB 4 [5,12,13,14] rfl kR (λ_ _ _ _ h=>h) kR (.pointer (some ⟨g2,0+k1*1,none⟩)) (Quiet.pure (CQ 67 _ _ _ g2 0 NR NR k1 1 .i64 U U U EL kF om))<|sD 5 U ((y2 k1).v) (qy 2 (0+k1*1) rfl U CU (Du om U))<|Sy.stepDB 6 [10,11,12,13,14] rfl kR (λ_ _ _ _ h=>h) kR (CK R NR cR bm) (qx 0 0 33 U U EP (B4 hbm) (CY hbm)) ?_
   refine Sy.stepDB 7 [10,11,12,13,14] rfl kR (λ_ _ _ _ h=>h) kR (.agg (sd.map bv).toArray) (qx 1 0 32 U U Dc (BO sd hsd) (Bf sd hsd))<|Sy.stepDB 8 [10,11,12,13,14] rfl kR (λ_ _ _ _ h=>h) kR (iZ k1) qP<|Sy.stepDB 9 [10,11,12,13,14] rfl kR (λ_ _ _ _ h=>h) kR (iZ k2) qP<|sD 10 U (fv (rgF bm sd k1 k2)) (qg (λw hw=>R_ w R NR cR bm hbm sd hsd k1 k2 om om (ht.below hw.below ht.lt)))<|Sy.makeD 11 U kR kR 26 (fcs (rgF bm sd k1 k2)) (λg=>.slice (pA g) 1 1) kF (λg3=>?_)
   refine Sy.movTD<|Sy.soleD 12 U (λQ1 hq1=>?_)
   refine Sy.permS (Sy.out_perm y2 (i:=k1) om)<|Sy.appendR kR 117 26 _ _ 4 32 CU He U U U U dZ _ _ U (hh2 k1) kR (fws (rgF bm sd k1 k2)) U (Eb _) 3 g3 26 kR kR (by rw [List.length_map,List.length_range,Ef]; omega) (by rw [List.length_map,List.length_range,Ef]; simp only [maxLen]; omega) (λr1 hr1=>?_)
   refine hq1 _ _<|Sy.anyOf [13] kR dZ (Sy.each1 ?_)
   refine Sy.oneQuiet U kR (.pointer (some ⟨g2,0+k1*1,none⟩)) (Quiet.pure (CQ 67 _ _ _ g2 0 NR NR k1 1 .i64 U U U EL kF om))<|Sy.writeD 14 U kR (by rfl) kR 2 g2 117 (BF y2 NR) (BF (DP y2 k1 r1) NR) kR (Writes.one (0+k1*1) 117 r1.v _ _ U kR kR kR hr1.cells.1 hr1.cells.2 (ND om U) (Kt om U U))<|Sy.setTD<|Sy.permD (Sy.in_perm om)<|sE<|Sy.in_<|Sy.then_<|Sy.region<|sS (iZ (k2+1)) (qad U U U)<|sp U<|Sy.nil ?_
   exact Sy.againT (DP y2 k1 r1) om (hh2.put' hr1 U) ZK (λw hw=>St.pick (pre:=[(g0,132,(Bj R NR cR bm).toArray),(g1,23,(sd.map bv).toArray),(g2,117,(BF (DP y2 k1 r1) NR)),(g3,26,(fcs (rgF bm sd k1 k2)))]) (M:=[(g0,132,(Bj R NR cR bm).toArray),(g1,23,(sd.map bv).toArray),(g2,117,(BF (DP y2 k1 r1) NR))]) [0,1,2] dZ kR hw)
end Cu
end
section
namespace Sy
open Go.RowKit
section
variable {P:Program} {w0:Base} {n:Nat} {Q:Exit→Act→World→Prop} {F:AO} {L:AC}
theorem scope {c:Code} (h:wpC P w0 n (Exit.noGoto Q) F L c) (hf:w0.fence=Fence.wide:=by rfl):wpC P w0 n Q F L (.scope c):=λa w ha hw=>by
 have q:=h a w ha hw
 rw [hf] at q ⊢
 exact wpIn_wide.2 (wp_scope_straight (wpIn_wide.1 q))
theorem sc_r (h:X w0 n Q F L .ret):X w0 n (Exit.noGoto Q) F L .ret:=h
theorem label {i:Nat} (h:X w0 n Q F L .normal):wpC P w0 n Q F L (.label i):=λa w ha hw=>wpIn_label (h a w ha hw)
theorem DE {w1:World} {fn:Func} {r s:ResultVar} {v u:Value} {R:Value→AC→Prop} (M:AC) (hr:fn.results=#[r,s]) (h:Has P F L r v) (k:Has P F L s u) (hM:∀ w,St (Base.of w1) w L→St (Base.of w1) w M) (hR:R (.tuple #[v,u]) M):X (Base.of w1) n (bodyPost P fn (GetsN w1 R)) F L .ret:=λa w ha hw=>by
 refine bodyPost_ret (v:=.tuple #[v,u]) ?_ ha.1 ⟨_,M,rfl,hR,hw.below,λg t cs hm=>(hM w hw).blk g t cs hm,(hM w hw).apart⟩
 rcases Res.run h ha hw with ⟨t,rfl,e1⟩ | ⟨t,ty,ad,rfl,e1,e2⟩ <;> rcases Res.run k ha hw with ⟨t',rfl,f1⟩ | ⟨t',ty',ad',rfl,f1,f2⟩ <;> simp [results,Result.andThen, *]
theorem St.none {w:World} (h:St w0 w L):St w0 w []:=h.less (List.nil_sublist _)
end
section
variable {pre A B C D M N:AC}
theorem rot_perm:(pre++(A++(B++C))).Perm (pre++(B++(C++A))):=by
 rw [← List.append_assoc B]
 exact List.perm_append_comm.append_left pre
theorem tor_perm:(pre++(B++(C++A))).Perm (pre++(A++(B++C))):=rot_perm.symm
theorem St.pick3 {w0:Base} {w:World} (is:List Nat) (hn:is.Nodup) (hm:is.map (λi=>pre[i]?)=(M++N).map some) (hw:St w0 w (pre++(A++(B++(C++D))))):St w0 w (M++(A++(B++(C++N)))):=by
 have h1:(pre++((A++B)++C)).Sublist (pre++(A++(B++(C++D)))):=by
  rw [List.append_assoc]
  exact (List.Sublist.refl pre).append ((List.Sublist.refl A).append ((List.Sublist.refl B).append (List.sublist_append_left C D)))
 have h2:=St.pick2 (a:=A++B) (T:=C) is hn hm (hw.less h1)
 rwa [List.append_assoc] at h2
end
end Sy
end
section
namespace Cu
open Go.RowKit Sy
def AV (d:AF) (W:Option Addr) (NW cW:Nat):List Value:=d.map bv++[.slice W NW cW]
abbrev zS33:=(AV (List.replicate 32 (0:UInt8)) none 0 0)
def Aq (d:AF) (W:Option Addr) (NW cW:Nat):Value:=.agg (AV d W NW cW).toArray
section
variable {d:AF} {W:Option Addr} {NW cW:Nat}
theorem Ag (h:d.length=32):(AV d W NW cW).length=33:=by simp [AV,h]
theorem CG:∀ u∈AV d W NW cW,u.oneCell'=true:=λu hu=>by
 rcases List.mem_append.1 hu with hu | hu
 ·obtain ⟨x,_,rfl⟩:=List.mem_map.1 hu; rfl
 ·rw [List.mem_singleton.1 hu]; rfl
theorem JT (h:d.length=32):(AV d W NW cW).toArray[32]? = some (.slice W NW cW):=by
 rw [List.getElem?_toArray]
 unfold AV
 rw [List.getElem?_append_right (by rw [List.length_map,h]; exact Nat.le_refl _),List.length_map,h]
 rfl
theorem S5 (h:d.length=32):Value.agg (((AV d W NW cW).toArray.toList.drop 0).take 32).toArray=.agg (d.map bv).toArray:=by
 show Value.agg ((((AV d W NW cW)).drop 0).take 32).toArray=_
 rw [List.drop_zero]
 unfold AV
 rw [List.take_left' (by rw [List.length_map,h])]
theorem Vd (h:d.length=32):0+32≤(AV d W NW cW).toArray.size:=by rw [List.size_toArray,Ag h]; decide
theorem Be (h:d.length=32):Value.agg (((AV d W NW cW).toArray.toList.drop 0).take 33).toArray=Aq d W NW cW:=by
 show Value.agg ((((AV d W NW cW)).drop 0).take 33).toArray=_
 rw [List.drop_zero,List.take_of_length_le (by rw [Ag h]; exact Nat.le_refl _)]
 rfl
theorem Cc (h:d.length=32):0+33≤(AV d W NW cW).toArray.size:=by rw [List.size_toArray,Ag h]; decide
theorem Lo {w:World} {g:Nat} {t:TypeId} (hb:Blk w g t (AV d W NW cW).toArray):Sh.Src w (pA g) d:=λ_=>⟨g,0,rfl,hb.lt,λj u hj=>by
 refine (hb.cell (0+j)).trans ?_
 have hl:=(List.getElem?_eq_some_iff.1 hj).1
 rw [Nat.zero_add,List.getElem?_toArray]
 unfold AV
 rw [List.getElem?_append_left (by simpa using hl),List.getElem?_map,hj]
 rfl⟩
end
section
variable (s:Nat→Nat→Nat) (bm:AF) (X Y:Nat→Nat→Nat) (I:Nat→Nat→Bool) (d:AF)
def eE (i j:Nat):Nat:=rgC bm (alX (s i) bm i 0 (X i) (Y i) (I i) d j) i j
def eF (i j:Nat):List Value:=fws (eE s bm X Y I d i j)
def DQ (nk:Nat→Nat):Nat→List UInt8
 | 0=>[]
 | k+1=>DQ nk k++alX (s k) bm k 0 (X k) (Y k) (I k) d (nk k)
def FK (sn nk:Nat→Nat) (i:Nat):Bool:=decide (sn i=nk i) && (List.range (sn i)).all λj=>decide (s i j%Sc.pM=s i j)
def chB (NW NR:Nat) (sn nk:Nat→Nat):Bool:=decide (NW=NR) && ((List.range NR).all (FK s sn nk) && decide (rgT bm (DQ s bm X Y I d nk NR)=d))
end
section
variable {s:Nat→Nat→Nat} {bm:AF} {X Y:Nat→Nat→Nat} {I:Nat→Nat→Bool} {d:AF} {NW NR:Nat} {sn nk:Nat→Nat}
theorem aD (i j:Nat):eE s bm X Y I d i j<K4:=IA _ _ _ _
theorem Ez (s:Nat→Nat) (bm:AF) (i:Nat) (X Y:Nat→Nat) (I:Nat→Bool) (x:AF) (k:Nat):alX s bm i 0 X Y I x (k+1)=Ay (rPt (s k) (rgC bm (alX s bm i 0 X Y I x k) i k) (X k) (Y k) (I k)):=by
 show Ay (rPt (s (0+k)) (rgC bm (alX s bm i 0 X Y I x k) i (0+k)) (X (0+k)) (Y (0+k)) (I (0+k)))=_
 rw [Nat.zero_add]
theorem LM (h:d.length=32):∀ k,(DQ s bm X Y I d nk k).length≤33*k
 | 0=>Nat.le_refl _
 | k+1=>by
  show (DQ s bm X Y I d nk k++_).length≤_
  have h1:=LM h k
  have h2:(alX (s k) bm k 0 (X k) (Y k) (I k) d (nk k)).length≤33:=by
   rcases Nat.eq_zero_or_pos (nk k) with h0 | h0
   ·rw [h0]; show d.length≤33; omega
   ·rw [I_ h0]; exact Nat.le_refl _
  rw [List.length_append]
  omega
theorem RQ {i:Nat} (h:sn i≠nk i):FK s sn nk i=false:=by unfold FK; rw [decide_eq_false h]; rfl
theorem RP {i j:Nat} (hj:j<sn i) (h:s i j%Sc.pM≠s i j):FK s sn nk i=false:=by
 unfold FK
 rw [show ((List.range (sn i)).all λj=>decide (s i j%Sc.pM=s i j))=false from List.all_eq_false.2 ⟨j,List.mem_range.2 hj,by rw [decide_eq_false h]; decide⟩,Bool.and_false]
theorem Ku {i:Nat} (h1:sn i=nk i) (h2:∀ j,j<sn i→s i j%Sc.pM=s i j):FK s sn nk i=true:=by
 unfold FK
 rw [decide_eq_true h1,List.all_eq_true.2 λj hj=>decide_eq_true (h2 j (List.mem_range.1 hj))]
 rfl
theorem W5 (h:NW≠NR):chB s bm X Y I d NW NR sn nk=false:=by unfold chB; rw [decide_eq_false h]; rfl
theorem Qq {k:Nat} (hk:k<NR) (h:FK s sn nk k=false):chB s bm X Y I d NW NR sn nk=false:=by
 unfold chB
 rw [show (List.range NR).all (FK s sn nk)=false from List.all_eq_false.2 ⟨k,List.mem_range.2 hk,by rw [h]; decide⟩,Bool.false_and,Bool.and_false]
theorem W6 (h:rgT bm (DQ s bm X Y I d nk NR)≠d):chB s bm X Y I d NW NR sn nk=false:=by
 unfold chB
 rw [decide_eq_false h,Bool.and_false,Bool.and_false]
theorem MT (h0:NW=NR) (h1:∀ i,i<NR→FK s sn nk i=true) (h:rgT bm (DQ s bm X Y I d nk NR)=d):chB s bm X Y I d NW NR sn nk=true:=by
 unfold chB
 rw [decide_eq_true h0,decide_eq_true h,List.all_eq_true.2 λi hi=>h1 i (List.mem_range.1 hi)]
 rfl
end
def OR:Nat→Nat
 | 0=>32
 | _+1=>33
def XtIs (g:Nat) (d l:AF) (j:Nat) (xt:Sh.Tx) (xb:AC):Prop:=(j=0∧xt=⟨some ⟨g,0,none⟩,d,32⟩∧xb=[]∧l=d)∨(0<j∧l.length=33∧∃ q,xt=⟨some ⟨q,0,none⟩,l,33⟩∧xb=[(q,166,(l.map bv).toArray)])
section
variable {g j:Nat} {d l:AF} {xt:Sh.Tx} {xb:AC} {w0:Base} {w:World} {L:AC}
theorem XtIs.li (h:XtIs g d l j xt xb):xt.l=l:=by
 rcases h with ⟨_,rfl,_,rfl⟩ | ⟨_,_,q,rfl,_⟩ <;> rfl
theorem XtIs.xl (h:XtIs g d l j xt xb) (hd:d.length=32):xt.l.length=OR j:=by
 rcases h with ⟨rfl,rfl,_,rfl⟩ | ⟨hj,hl,q,rfl,_⟩
 ·exact hd
 ·cases j with
  | zero=>omega
  | succ j=>exact hl
theorem XtIs.val (h:XtIs g d l j xt xb) (hd:d.length=32):xt.val=.slice xt.A (OR j) xt.c:=by
 unfold Sh.Tx.val
 rw [h.xl hd]
theorem XtIs.len (h:XtIs g d l j xt xb) (hd:d.length=32):xt.l.length≤33∧xt.l.length≤xt.c∧xt.c≤33:=by
 rcases h with ⟨_,rfl,_,rfl⟩ | ⟨_,hl,q,rfl,_⟩
 ·show l.length≤33∧l.length≤32∧32≤33; omega
 ·show l.length≤33∧l.length≤33∧33≤33; omega
theorem XtIs.src (h:XtIs g d l j xt xb) {t:TypeId} {W:Option Addr} {NW cW:Nat} (hw:St w0 w L) (hg:(g,t,(AV d W NW cW).toArray)∈L) (hb:∀ b∈xb,b∈L):Sh.Src w xt.A xt.l:=by
 rcases h with ⟨_,rfl,_,rfl⟩ | ⟨_,_,q,rfl,rfl⟩
 ·exact Lo (hw.blk _ _ _ hg).2
 ·exact Sh.Src.of_blk (hw.blk _ _ _ (hb _ (List.mem_singleton.2 U))).2
theorem XtIs.ok (h:XtIs g d l j xt xb) (hj:0<j):∀ w L,St w0 w L→(∀ b∈xb,b∈L)→xt.ok w:=by
 rcases h with ⟨h0,_⟩ | ⟨_,hl,q,rfl,rfl⟩
 ·omega
 ·exact O' om dZ
end
def ChR (b:Bool) (f:Nat→Nat→List Value) (nk:Nat→Nat) (NR:Nat) (v:Value) (M:AC):Prop:=(b=false∧v=.tuple #[.slice none 0 0,.bool false]∧M=[])∨(b=true∧∃ u,v=.tuple #[u,.bool true]∧IV 117 26 4 f (Ce nk NR 0) NR u M)
theorem Ip (w:World) (R:Option Addr) (NR cR:Nat) (a:Nat→Option Addr) (nk ck:Nat→Nat) (X Y:Nat→Nat→Nat) (I:Nat→Nat→Bool) (hX:∀ i k,X i k<K4) (hY:∀ i k,Y i k<K4) (hNR:NR≤4611686018427387904) (hnk:∀ i,nk i≤4611686018427387904) (hlr:Lst w 1 R NR (λi=>[.slice (a i) (nk i) (ck i)])) (hlk:∀ i,i<NR→Lst w 9 (a i) (nk i) (λk=>pml (X i k) (Y i k) (I i k))) (hN32:NR≤32) (hn64:∀ i,i<NR→nk i≤64) (hn1:∀ i,i<NR→1≤nk i) (bm:AF) (hbm:bm.length=32) (d:AF) (hd:d.length=32) (W:Option Addr) (NW cW:Nat) (sa:Nat→Option Addr) (sn sc:Nat→Nat) (s:Nat→Nat→Nat) (hsc:∀ i k,s i k<K4) (hNW:NW≤4611686018427387904) (hsn9:∀ i,i<NW→sn i≤4611686018427387904) (hlw:Lst w 1 W NW (λi=>[.slice (sa i) (sn i) (sc i)])) (hls:∀ i,i<NW→Lst w 4 (sa i) (sn i) (λk=>fws (s i k))) (ht:Sh.TabAt w 1):AY 97 #[CK R NR cR bm,Aq d W NW cW] w (GetsN w (ChR (chB s bm X Y I d NW NR sn nk) (eF s bm X Y I d) nk NR)):=by
 have hlr0:=hlr
 obtain ⟨gR,oR,hR⟩:=hlr
 obtain ⟨gW,oW,hW⟩:=hlw
 refine Sy.enter (args:=[CK R NR cR bm,Aq d W NW cW]) Tryz.func97 U kL<|sC<|sM 132 (Bj R NR cR bm).toArray (λg0=>?_)
 refine sM 69 (AV d W NW cW).toArray (λg1=>?_)
 refine sp U<|sp U<|sG<|Sy.scope<|Sy.seq<|sC<|sP (pT g1 32)<|sS (.slice W NW cW) (qy 1 32 U U EL (JT hd))<|sP (iZ NW)<|sP (pT g0 0)<|sS (.slice R NR cR) (qy 0 0 U U D0 kR)<|sP (iZ NR) ?_
 obtain ⟨b1,hb1⟩:=xE (decide (NW≠NR))
 refine sS (.bool b1) (qne U U U hb1)<|sG ?_
 cases b1
 ·have lb1:=dN hb1
  obtain rfl:NR=NW:=om
  refine sU<|Sy.skip<|sB<|sP (pT g0 0)<|sS (.slice R NR cR) (qy 0 0 U U D0 kR)<|sP (iZ NR)<|Sy.make kR 117 (AL (λ_=>[.slice none 0 0]) NR).toArray (λg=>.slice (pA g) NR NR) (Makes.slice 67 117 _ (.slice none 0 0) 1 24 _ _ .i64 .i64 NR [.slice none 0 0] rfl U U EL J7 kR kR dZ kR kR kR om om) (λg2=>?_)
  refine sp U<|sA<|sp U<|sG<|Sy.seq<|Sy.label<|Sy.then_<|Sy.seq<|sC<|sP (pT g1 32)<|sS (.slice W NR cW) (qy 1 32 U U EL (JT hd))<|sP (iZ NR)<|sp U<|sG<|Sy.block<|Sy.loopT (Y:=(Nat→Slc)×Slc×AC×List Sh.Tx) NR (λk1 y1=>[(2,pT g0 0),(3,pT g1 0),(6,.slice (pA g2) NR NR),(7,y1.2.1.v),(26,.slice W NR cW),(27,iZ NR),(28,iZ k1)]) (λk1 y1=>[(g0,132,(Bj R NR cR bm).toArray),(g1,69,(AV d W NR cW).toArray),(g2,117,(BF y1.1 NR))]++(Bb y1.1 NR++(y1.2.1.bl++y1.2.2.1))) (λk1 y1=>RowsAre y1.1 26 4 (eF s bm X Y I d) (Ce nk k1 0)∧TxsIs (Base.of w) 29 y1.2.1 y1.2.2.1 y1.2.2.2∧Sh.cat y1.2.2.2=DQ s bm X Y I d nk k1∧y1.2.2.2.length=k1∧∀ i,i<k1→FK s sn nk i=true) (λ_=>nilS,nilS,[],[]) ⟨(RowsAre.nil _ _ _).cnt (IM nk),TxsIs.nil _ _,rfl,rfl,λi hi=>absurd hi (Nat.not_lt_zero _)⟩ ac7 (λw hw=>by rw [H_]; exact hw) (λk1 y1 hk1 hh1=>?_)
  refine sC ?_
  obtain ⟨b2,hb2⟩:=xE (decide (k1<NR))
  refine sS (.bool b2) (qls U U U hb2)<|sG<|Sy.seq ?_
  cases b2
  ·have lb2:=dN hb2
   refine sU<|Sy.exit<|Sy.then_exit<|Sy.then_exit ?_
   obtain rfl:NR=k1:=om
   refine Sy.in_exit<|Sy.then_<|Sy.seq<|Sy.seq<|Sy.regionD (λj=>false) kR<|sz 0 U U<|sD 1 U (iZ NR) (Quiet.lenR hh1.2.1.row (by rw [List.length_map]; exact hh1.2.2.2.1) _ Ik U U)<|sZ 2 U (pT g0 0)<|sD 3 U (.slice R NR cR) (qy 0 0 U U D0 kR)<|sZ 4 U (iZ NR) ?_
   obtain ⟨b3,hb3⟩:=xE (decide (NR≠NR))
   refine sD 5 U (.bool b3) (qne U U U hb3)<|sz 6 U U ?_
   cases b3
   ·have lb3:=dN hb3
    refine sD 7 U (CK R NR cR bm) (qx 0 0 33 U U EP (B4 hbm) (CY hbm))<|sz 8 U U ?_
    obtain ⟨d0,hd0⟩:=xE (rgT bm (DQ s bm X Y I d nk NR))
    have hd1:d0.length=32:=by rw [hd0]; exact Lv _ _
    refine sD 9 U (.agg (d0.map bv).toArray) (qg (args:=#[CK R NR cR bm,y1.2.1.v]) (λw hw=>by obtain ⟨Q,dd,hv,hc9,_,htx⟩:=hh1.2.1.texts; rw [hv,hd0, ← hh1.2.2.1]; have hel:=LM (s:=s) (bm:=bm) (X:=X) (Y:=Y) (I:=I) (nk:=nk) hd NR; exact KA w R NR cR bm hbm Q _ dd y1.2.2.2 (htx hw (λb hb=>List.mem_append.2 (.inr (List.mem_append.2 (.inr (List.mem_append.2 (.inl hb)))))) (λb hb=>List.mem_append.2 (.inr (List.mem_append.2 (.inr (List.mem_append.2 (.inr hb))))))) (hh1.2.1.ok w _ hw (λb hb=>List.mem_append.2 (.inr (List.mem_append.2 (.inr (List.mem_append.2 (.inr hb))))))) U hc9 om (by rw [hh1.2.2.1]; omega) (ht.below hw.below ht.lt)))<|sZ 10 U (pT g1 0)<|sD 11 U (.agg (d.map bv).toArray) (qx 1 0 32 U U Dc (S5 hd) (Vd hd)) ?_
    obtain ⟨b4,hb4⟩:=xE (decide (d0≠d))
    refine sD 12 U (.bool b4) (Quiet.pure (λw=>by rw [hb4]; exact PC w _ _ _ _ d0 d hd1 hd U U U))<|sZ 13 U (.bool b4)<|sI ?_
    cases b4
    ·have lb4:=dN hb4
     refine sU<|Sy.skip<|sB<|sp U<|sp U<|sp U<|sG<|Sy.ret<|Sy.sc_r ?_
     exact DE ((g2,117,BF y1.1 NR)::Bb y1.1 NR) rfl (v:=.slice (pA g2) NR NR) (u:=.bool true) (.inl (show _=_ by kernel_rfl)) (.inl (show _=_ by kernel_rfl)) (λw hw=>(St.pick (pre:=[(g0,132,(Bj R NR cR bm).toArray),(g1,69,(AV d W NR cW).toArray),(g2,117,(BF y1.1 NR))]) (M:=[(g2,117,BF y1.1 NR)]) [2] dZ kR hw).less (by rw [← List.append_assoc]; exact List.sublist_append_left _ _)) (.inr ⟨MT U hh1.2.2.2.2 (by rw [← hd0]; exact Decidable.of_not_not lb4),_,rfl,_,y1.1,rfl,rfl,hh1.1⟩)
    ·have lb4:=dY hb4
     refine sT<|sC<|sp U<|sp U<|sG<|Sy.ret<|Sy.then_ret<|Sy.sc_r ?_
     exact DE [] rfl (v:=.slice none 0 0) (u:=.bool false) (.inl (show _=_ by kernel_rfl)) (.inl (show _=_ by kernel_rfl)) (λ_ hw=>hw.none) (.inl ⟨W6 (by rw [← hd0]; exact lb4),rfl,rfl⟩)
   ·have lb3:=dY hb3
    exact absurd U lb3
  ·have lb2:=dY hb2
   have hnk1:=hn64 k1 lb2
   have hnk0:=hn1 k1 lb2
   obtain ⟨gK,oK,hT⟩:=hlk k1 lb2
   obtain ⟨gS,oS,hS⟩:=hls k1 lb2
   have hsn8:=hsn9 k1 lb2
   refine sT<|Sy.skip<|Sy.then_<|Sy.seq<|Sy.block<|sC<|sp U<|sS (.pointer (some ⟨gW,oW+k1*1,none⟩)) (Quiet.pure (Af 67 _ _ _ W gW oW NR cW k1 1 .i64 (hW om).1 U U U EL kF om))<|sS (.slice (sa k1) (sn k1) (sc k1)) (Quiet.thereOne gW (oW+k1*1) 117 _ _ U kR (hW om).2.1 _ (Ar ((hW om).2.2 k1 om) 0 U) CU U)<|sp U<|sp U<|sG<|Sy.seq<|sC<|sp U<|sP (iZ ((sn k1)))<|sP (pT g0 0)<|sS (.slice R NR cR) (qy 0 0 U U D0 kR)<|sp U<|sS (.pointer (some ⟨gR,oR+k1*1,none⟩)) (Quiet.pure (Af 73 _ _ _ R gR oR NR cR k1 1 .i64 (hR om).1 U U U D0 kF om))<|sS (.slice (a k1) (nk k1) (ck k1)) (Quiet.thereOne gR (oR+k1*1) 54 _ _ U kR (hR om).2.1 _ (Ar ((hR om).2.2 k1 om) 0 U) CE U)<|sP (iZ ((nk k1))) ?_
   obtain ⟨b5,hb5⟩:=xE (decide ((sn k1)≠(nk k1)))
   refine sS (.bool b5) (qne U U U hb5)<|sG ?_
   cases b5
   ·have lb5:=dN hb5
    have hsn:sn k1=nk k1:=om
    refine sU<|Sy.skip<|sB<|sP (pT g1 0)<|sP (.slice (pA g1) 32 32)<|sp U<|sG<|Sy.seq<|sC<|sp U<|sP (iZ ((sn k1)))<|sp U<|sG<|Sy.block<|Sy.loopT (Y:=(Nat→Slc)×Sh.Tx×AC) (sn k1) (λk2 y2=>[(2,pT g0 0),(3,pT g1 0),(6,.slice (pA g2) NR NR),(7,y1.2.1.v),(8,iZ k1),(9,.slice (sa k1) (sn k1) (sc k1)),(10,.slice y2.2.1.A (OR k2) y2.2.1.c),(26,.slice W NR cW),(27,iZ NR),(28,iZ k1),(44,.slice (sa k1) (sn k1) (sc k1)),(45,iZ ((sn k1))),(46,iZ k2)]) (λk2 y2=>[(g0,132,(Bj R NR cR bm).toArray),(g1,69,(AV d W NR cW).toArray),(g2,117,(BF y2.1 NR))]++(Bb y2.1 NR++(y1.2.1.bl++(y1.2.2.1++y2.2.2)))) (λk2 y2=>RowsAre y2.1 26 4 (eF s bm X Y I d) (Ce nk k1 k2)∧XtIs g1 d (alX (s k1) bm k1 0 (X k1) (Y k1) (I k1) d k2) k2 y2.2.1 y2.2.2∧∀ i,i<k2→s k1 i%Sc.pM=s k1 i) (y1.1,⟨some ⟨g1,0,none⟩,d,32⟩,[]) ⟨hh1.1,.inl ⟨rfl,rfl,rfl,rfl⟩,λi hi=>absurd hi (Nat.not_lt_zero _)⟩ aN (λw hw=>by rw [List.append_nil]; exact hw) (λk2 y2 hk2 hh2=>?_)
    refine sC ?_
    obtain ⟨b6,hb6⟩:=xE (decide (k2<(sn k1)))
    refine sS (.bool b6) (qls U U U hb6)<|sG<|Sy.seq ?_
    cases b6
    ·have lb6:=dN hb6
     refine sU<|Sy.exit<|Sy.then_exit<|Sy.then_exit ?_
     obtain rfl:k2=sn k1:=om
     refine Sy.in_exit<|Sy.then_<|Sy.region<|sp U<|sp U<|Sy.make kR 29 #[.slice y2.2.1.A (OR (sn k1)) y2.2.1.c] (λg=>.slice (pA g) 1 1) kF (λg3=>?_)
     refine Sy.movT<|Sy.permS Sy.rot_perm<|Sy.appendR kR 58 29 _ _ 1 24 Ik GO U U U U dZ _ _ U hh1.2.1.row kR [.slice y2.2.1.A (OR (sn k1)) y2.2.1.c] rfl (Js _ _ _) 3 g3 29 kR kR (by rw [List.length_map,hh1.2.2.2.1]; omega) (by rw [List.length_map,hh1.2.2.2.1]; simp only [maxLen]; omega) (λr1 hr1=>?_)
     refine Sy.permS Sy.tor_perm<|sp U<|Sy.nil<|Sy.in_<|Sy.then_<|Sy.region<|sS (iZ (k1+1)) (qad U U U)<|sp U<|Sy.nil ?_
     exact Sy.againT ((y2.1,r1,y1.2.2.1++y2.2.2,y1.2.2.2++[y2.2.1])) om (⟨hh2.1.cnt (λi=>by rw [hsn]; exact Zz nk k1 i),hh1.2.1.add y2.2.1 y2.2.2 hr1 (hh2.2.1.val hd) (hh2.2.1.ok om),by rw [I7,hh1.2.2.1,hh2.2.1.li,hsn]; rfl,by rw [List.length_append,hh1.2.2.2.1]; rfl,λi hi=>(Nat.lt_succ_iff_lt_or_eq.1 hi).elim (hh1.2.2.2.2 i) (λh=>by rw [h]; exact Ku hsn hh2.2.2)⟩) ac7 (λw hw=>St.pick (pre:=[(g0,132,(Bj R NR cR bm).toArray),(g1,69,(AV d W NR cW).toArray),(g2,117,(BF y2.1 NR)),(g3,29,#[.slice y2.2.1.A (OR (sn k1)) y2.2.1.c])]) (M:=[(g0,132,(Bj R NR cR bm).toArray),(g1,69,(AV d W NR cW).toArray),(g2,117,(BF y2.1 NR))]) [0,1,2] dZ kR hw)
    ·have lb6:=dY hb6
     refine sT<|Sy.skip<|Sy.then_<|Sy.seq<|Sy.block<|sC<|sp U<|sS (.pointer (some ⟨gS,oS+k2*4,none⟩)) (Quiet.pure (Af 117 _ _ _ (sa k1) gS oS (sn k1) (sc k1) k2 4 .i64 (hS om).1 U U U CU kF om))<|sS (fv (s k1 k2)) (Quiet.there gS (oS+k2*4) 4 26 (fws (s k1 k2)) _ _ U kR (hS om).2.1 ((hS om).2.2 k2 om) Au U kR U _ U)<|sM 26 (fcs 0) (λg4=>?_)
     refine Sy.movT<|sp U<|sw 3 U (fcs (s k1 k2)) (wA U)<|Sy.setT<|sG<|Sy.seq<|Sy.seq<|Sy.regionD (λj=>false) kR<|sD 0 U (fv (s k1 k2)) (qk 3 0 4 U U Au)<|sD 1 U (fv (s k1 k2%Sc.pM)) (qf (λw=>Sc.norm_any w (s k1 k2) (hsc k1 k2)))<|sD 2 U (fv (s k1 k2)) (qk 3 0 4 U U Au) ?_
     obtain ⟨b7,hb7⟩:=xE (decide ((s k1 k2%Sc.pM)≠(s k1 k2)))
     refine sD 3 U (.bool b7) (Quiet.pure (λw=>by rw [hb7,decide_not]; exact YY w _ _ _ _ _ _ U U U (by first | exact hsc _ _ | exact Sc.mod_lt _ | exact IA _ _ _ _ | exact Jh _ _ _ _ | assumption) (by first | exact hsc _ _ | exact Sc.mod_lt _ | exact IA _ _ _ _ | exact Jh _ _ _ _ | assumption)))<|sI ?_
     cases b7
     ·have lb7:=dN hb7
      have hnorm:s k1 k2%Sc.pM=s k1 k2:=Decidable.of_not_not lb7
      refine sU<|Sy.skip<|sB<|sS (CK R NR cR bm) (qx 0 0 33 U U EP (B4 hbm) (CY hbm))<|sp U<|sp U<|sp U<|sS (fv (eE s bm X Y I d k1 k2)) (qg (λw hw=>by have hl:=hh2.2.1.len hd; have hx:=hh2.2.1.xl hd; have q:=GR w R NR cR bm hbm y2.2.1.A y2.2.1.l (OR k2) y2.2.1.c hx om om om (hh2.2.1.src hw (List.mem_append.2 (.inl (List.mem_of_getElem? (i:=1) rfl))) (λb hb=>List.mem_append.2 (.inr (List.mem_append.2 (.inr (List.mem_append.2 (.inr (List.mem_append.2 (.inr hb))))))))) k1 k2 om om (ht.below hw.below ht.lt); rwa [show rgC bm y2.2.1.l k1 k2=eE s bm X Y I d k1 k2 by rw [hh2.2.1.li]; rfl] at q))<|sM 26 (fcs 0) (λg5=>?_)
      refine Sy.movT<|sw 4 U (fcs (eE s bm X Y I d k1 k2)) (wA U)<|Sy.setT<|sH (λj=>j == 8 || j == 10)<|Sy.stepDA 0 U kR (λ_ _ _ _ h=>h) kR (.slice (pA g2) NR NR) kF<|Sy.stepDA 1 U kR (λ_ _ _ _ h=>h) kR (iZ k1) kF<|Sy.stepDB 2 [4,5,8,9,10] rfl kR (λ_ _ _ _ h=>h) kR (.slice (pA g2) NR NR) qP<|Sy.stepDB 3 [4,5,8,9,10] rfl kR (λ_ _ _ _ h=>h) kR (iZ k1) qP<|Sy.stepDB 4 [5,8,9,10] rfl kR (λ_ _ _ _ h=>h) kR (.pointer (some ⟨g2,0+k1*1,none⟩)) (Quiet.pure (CQ 67 _ _ _ g2 0 NR NR k1 1 .i64 U U U EL kF om))<|sD 5 U ((y2.1 k1).v) (qy 2 (0+k1*1) rfl U CU (Du om U))<|Sy.stepDB 6 [7,8,9,10] rfl kR (λ_ _ _ _ h=>h) kR (fv (eE s bm X Y I d k1 k2)) (qk 4 0 4 U U Au) ?_
      refine Sy.makeD 7 U kR kR 26 (fcs (eE s bm X Y I d k1 k2)) (λg=>.slice (pA g) 1 1) kF (λg6=>?_)
      refine Sy.movTD<|Sy.soleD 8 U (λQ2 hq2=>?_)
      refine Sy.permS (Sy.out_perm y2.1 (i:=k1) om)<|Sy.appendR kR 117 26 _ _ 4 32 CU He U U U U dZ _ _ U (hh2.1 k1) kR (fws (eE s bm X Y I d k1 k2)) U (Eb _) 5 g6 26 kR kR (by rw [List.length_map,List.length_range,Ef]; omega) (by rw [List.length_map,List.length_range,Ef]; simp only [maxLen]; omega) (λr2 hr2=>?_)
      refine hq2 _ _<|Sy.anyOf [9] kR dZ (Sy.each1 ?_)
      refine Sy.oneQuiet U kR (.pointer (some ⟨g2,0+k1*1,none⟩)) (Quiet.pure (CQ 67 _ _ _ g2 0 NR NR k1 1 .i64 U U U EL kF om))<|Sy.writeD 10 U kR (by rfl) kR 2 g2 117 (BF y2.1 NR) (BF (DP y2.1 k1 r2) NR) kR (Writes.one (0+k1*1) 117 r2.v _ _ U kR kR kR hr2.cells.1 hr2.cells.2 (ND om U) (Kt om U U))<|Sy.setTD<|Sy.permD (Sy.in_perm om)<|sI<|Sy.regionD (λj=>false) kR<|sD 0 U (fv (s k1 k2)) (qk 3 0 4 U U Au)<|sD 1 U (fv (eE s bm X Y I d k1 k2)) (qk 4 0 4 U U Au)<|sZ 2 U (pT g0 0)<|sD 3 U (.slice R NR cR) (qy 0 0 U U D0 kR)<|sz 4 U U<|sD 5 U (.pointer (some ⟨gR,oR+k1*1,none⟩)) (Quiet.pure (Af 73 _ _ _ R gR oR NR cR k1 1 .i64 (hR om).1 U U U D0 kF om))<|sD 6 U (.slice (a k1) (nk k1) (ck k1)) (Quiet.thereOne gR (oR+k1*1) 54 _ _ U kR (hR om).2.1 _ (Ar ((hR om).2.2 k1 om) 0 U) CE U)<|sz 7 U U<|sD 8 U (.pointer (some ⟨gK,oK+k2*9,none⟩)) (Quiet.pure (Af 54 _ _ _ (a k1) gK oK (nk k1) (ck k1) k2 9 .i64 (hT om).1 U U U CE kF om))<|sD 9 U (pv (X k1 k2) (Y k1 k2) (I k1 k2)) (Quiet.there gK (oK+k2*9) 9 37 (pml (X k1 k2) (Y k1 k2) (I k1 k2)) _ _ U kR (hT om).2.1 ((hT om).2.2 k2 om) AX U kR U _ U)<|Sy.callND 10 U kR kR 158 #[fv (s k1 k2),fv (eE s bm X Y I d k1 k2),pv (X k1 k2) (Y k1 k2) (I k1 k2)] kF ((Dk (rPt (s k1 k2) (eE s bm X Y I d k1 k2) (X k1 k2) (Y k1 k2) (I k1 k2)))) (λw hw=>Gt w _ _ _ _ _ (hsc _ _) (aD _ _) (hX _ _) (hY _ _)) (λvq Mq hR0=>?_)
      obtain ⟨q7,rfl,rfl⟩:=hR0
      refine Sy.movTD<|sz 11 U U<|sE<|Sy.in_<|Sy.then_<|Sy.region<|sS (iZ (k2+1)) (qad U U U)<|sp U<|Sy.nil ?_
      exact Sy.againT ((DP y2.1 k1 r2,(⟨some ⟨q7,0,none⟩,Ay (rPt (s k1 k2) (eE s bm X Y I d k1 k2) (X k1 k2) (Y k1 k2) (I k1 k2)),33⟩:Sh.Tx),[(q7,166,((Ay (rPt (s k1 k2) (eE s bm X Y I d k1 k2) (X k1 k2) (Y k1 k2) (I k1 k2))).map bv).toArray)])) om (⟨hh2.1.put' hr2 U,by rw [Ez]; exact .inr ⟨Nat.succ_pos _,Ai _,q7,rfl,rfl⟩,λi hi=>(Nat.lt_succ_iff_lt_or_eq.1 hi).elim (hh2.2.2 i) (λh=>by rw [h]; exact hnorm)⟩) aN (λw hw=>St.pick3 (pre:=[(g0,132,(Bj R NR cR bm).toArray),(g1,69,(AV d W NR cW).toArray),(g2,117,(BF (DP y2.1 k1 r2) NR)),(g4,26,(fcs (s k1 k2))),(g5,26,(fcs (eE s bm X Y I d k1 k2))),(g6,26,(fcs (eE s bm X Y I d k1 k2))),(q7,166,((Ay (rPt (s k1 k2) (eE s bm X Y I d k1 k2) (X k1 k2) (Y k1 k2) (I k1 k2))).map bv).toArray)]) (M:=[(g0,132,(Bj R NR cR bm).toArray),(g1,69,(AV d W NR cW).toArray),(g2,117,(BF (DP y2.1 k1 r2) NR))]) (N:=[(q7,166,((Ay (rPt (s k1 k2) (eE s bm X Y I d k1 k2) (X k1 k2) (Y k1 k2) (I k1 k2))).map bv).toArray)]) [0,1,2,6] dZ kR hw)
     ·have lb7:=dY hb7
      refine sT<|Sy.exit<|Sy.then_exit<|Sy.in_pass (by decide)<|Sy.then_exit<|Sy.then_exit<|Sy.in_pass (by decide)<|Sy.then_exit<|Sy.in_pass (by decide)<|Sy.then_exit<|Sy.then_exit<|Sy.in_exit<|Sy.then_<|Sy.seq<|Sy.seq<|Sy.regionD (λj=>false) kR<|sz 0 U U<|sD 1 U (iZ k1) (Quiet.lenR hh1.2.1.row (by rw [List.length_map]; exact hh1.2.2.2.1) _ Ik U U)<|sZ 2 U (pT g0 0)<|sD 3 U (.slice R NR cR) (qy 0 0 U U D0 kR)<|sZ 4 U (iZ NR) ?_
      obtain ⟨b8,hb8⟩:=xE (decide (k1≠NR))
      refine sD 5 U (.bool b8) (qne U U U hb8)<|sz 6 U U ?_
      cases b8
      ·have lb8:=dN hb8
       exact absurd (show k1≠NR by omega) lb8
      ·have lb8:=dY hb8
       refine sQ 7 U<|sQ 8 U<|sQ 9 U<|sQ 10 U<|sQ 11 U<|sQ 12 U<|sZ 13 U (.bool true)<|sI<|sT<|sC<|sp U<|sp U<|sG<|Sy.ret<|Sy.then_ret<|Sy.sc_r ?_
       exact DE [] rfl (v:=.slice none 0 0) (u:=.bool false) (.inl (show _=_ by kernel_rfl)) (.inl (show _=_ by kernel_rfl)) (λ_ hw=>hw.none) (.inl ⟨Qq (by assumption) (RP (by assumption) lb7),rfl,rfl⟩)
   ·have lb5:=dY hb5
    refine sT<|Sy.exit<|Sy.then_exit<|Sy.in_pass (by decide)<|Sy.then_exit<|Sy.then_exit<|Sy.in_exit<|Sy.then_<|Sy.seq<|Sy.seq<|Sy.regionD (λj=>false) kR<|sz 0 U U<|sD 1 U (iZ k1) (Quiet.lenR hh1.2.1.row (by rw [List.length_map]; exact hh1.2.2.2.1) _ Ik U U)<|sZ 2 U (pT g0 0)<|sD 3 U (.slice R NR cR) (qy 0 0 U U D0 kR)<|sZ 4 U (iZ NR) ?_
    obtain ⟨b9,hb9⟩:=xE (decide (k1≠NR))
    refine sD 5 U (.bool b9) (qne U U U hb9)<|sz 6 U U ?_
    cases b9
    ·have lb9:=dN hb9
     exact absurd (show k1≠NR by omega) lb9
    ·have lb9:=dY hb9
     refine sQ 7 U<|sQ 8 U<|sQ 9 U<|sQ 10 U<|sQ 11 U<|sQ 12 U<|sZ 13 U (.bool true)<|sI<|sT<|sC<|sp U<|sp U<|sG<|Sy.ret<|Sy.then_ret<|Sy.sc_r ?_
     exact DE [] rfl (v:=.slice none 0 0) (u:=.bool false) (.inl (show _=_ by kernel_rfl)) (.inl (show _=_ by kernel_rfl)) (λ_ hw=>hw.none) (.inl ⟨Qq (by assumption) (RQ lb5),rfl,rfl⟩)
 ·have lb1:=dY hb1
  refine sT<|sC<|sp U<|sp U<|sG<|Sy.ret<|Sy.then_ret<|Sy.sc_r ?_
  exact DE [] rfl (v:=.slice none 0 0) (u:=.bool false) (.inl (show _=_ by kernel_rfl)) (.inl (show _=_ by kernel_rfl)) (λ_ hw=>hw.none) (.inl ⟨W5 lb1,rfl,rfl⟩)
end Cu
end
section
namespace Sy
open Go.RowKit
section
variable {r:Nat→Slc} {n i:Nat} {pre A B C D M N T:AC} {b b':Nat×TypeId×Array Value} {v:Value} {w0:Base} {w:World}
theorem end_perm:((pre++(A++B))++D).Perm (pre++(A++(B++D))):=by
 rw [List.append_assoc,List.append_assoc]
theorem end_perm3:((pre++(A++(B++C)))++D).Perm (pre++(A++(B++(C++D)))):=by
 rw [List.append_assoc,List.append_assoc,List.append_assoc]
theorem out1 (r:Nat→Slc) (hi:i<n) (hb:(r i).bl=[b]):(pre++(Bb r n++T)).Perm ((pre++[b])++(FJ r n i++T)):=by
 have h:=out_perm (pre:=pre) (T:=T) r hi
 rw [hb] at h
 rwa [List.append_assoc]
theorem St.back1 (hi:i<n) (hw:St w0 w ((M++[b'])++(FJ r n i++T))):St w0 w (M++(Bb (DP r i ⟨v,[b']⟩) n++[])):=by
 have h1:((M++[b'])++(FJ r n i++[])).Sublist ((M++[b'])++(FJ r n i++T)):=(List.Sublist.refl _).append ((List.Sublist.refl _).append (List.nil_sublist _))
 refine (hw.less h1).perm ?_
 rw [List.append_assoc]
 exact in_perm (x:=⟨v,[b']⟩) hi
theorem Og {x:Slc} (h:x.v=(r i).v):BF (DP r i x) n=BF r n:=by
 unfold BF
 refine congrArg List.toArray (CD λj _=>?_)
 by_cases hj:j=i
 ·rw [hj,Dv,h]
 ·rw [E6 hj]
theorem RowsAre.upd {e:TypeId} {sz:Nat} {f f':Nat→Nat→List Value} {c:Nat→Nat} {x:Slc} (h:RowsAre r e sz f c) (hx:x.Is e sz ((List.range (c i)).map (f' i))) (hf:∀ j,j≠i→f' j=f j):RowsAre (DP r i x) e sz f' c:=λj=>by
 by_cases hj:j=i
 ·subst hj; rw [Dv]; exact hx
 ·rw [E6 hj,hf j hj]; exact h j
theorem St.pick4 (is:List Nat) (hn:is.Nodup) (hm:is.map (λi=>pre[i]?)=(M++N).map some) (hw:St w0 w (pre++(A++(B++(C++D))))):St w0 w (M++(A++(B++(C++(D++N))))):=by
 have h2:=St.pick2 (a:=A++B) (T:=C++D) is hn hm (by rwa [List.append_assoc])
 rwa [List.append_assoc,List.append_assoc C] at h2
end
theorem Slc.Is.open {r:Slc} {e:TypeId} {sz m:Nat} {f:Nat→List Value} (h:r.Is e sz ((List.range m).map f)) (hm:0<m):∃ g cap sp,r.v=.slice (pA g) m cap∧r.bl=[(g,e,(AL f m++sp).toArray)]∧sp.length+m*sz=cap*sz∧m≤cap∧cap≤maxLen:=by
 rcases h.row with ⟨h0,_⟩ | ⟨g,cap,sp,rfl,h1,h2,h3⟩
 ·have:=congrArg List.length h0
  simp at this
  omega
 ·rw [List.length_map,List.length_range] at h1 h2
  exact ⟨g,cap,sp,by rw [List.length_map,List.length_range],by rw [show ((List.range m).map f).flatten=AL f m from (List.flatMap_def ..).symm],h1,h2,h3⟩
theorem Slc.Is.close {e:TypeId} {sz m g cap:Nat} {f:Nat→List Value} {sp:List Value} (hf:∀ k,(f k).length=sz) (h1:∀ k, ∀ u∈f k,u.oneCell'=true) (hs:sp.length+m*sz=cap*sz) (hm:m≤cap) (hc:cap≤maxLen):Slc.Is ⟨.slice (pA g) m cap,[(g,e,(AL f m++sp).toArray)]⟩ e sz ((List.range m).map f) :=
 ⟨λx hx=>by obtain ⟨k,_,rfl⟩:=List.mem_map.1 hx; exact hf k,λx hx=>by obtain ⟨k,_,rfl⟩:=List.mem_map.1 hx; exact h1 k,.inr ⟨g,cap,sp,by rw [List.length_map,List.length_range,show ((List.range m).map f).flatten=AL f m from (List.flatMap_def ..).symm],by rw [List.length_map,List.length_range]; exact hs,by rw [List.length_map,List.length_range]; exact hm,hc⟩⟩
theorem QG {w0:Base} {w:World} {L:AC} {g sz m:Nat} {e:TypeId} {f:Nat→List Value} {sp:List Value} (hf:∀ k,(f k).length=sz) (hw:St w0 w L) (hb:(g,e,(AL f m++sp).toArray)∈L):Lst w sz (pA g) m f:=by
 have hbk:=(hw.blk _ _ _ hb).2
 refine ⟨g,0,λ_=>⟨rfl,hbk.lt,λj hj=>?_⟩⟩
 rw [Nat.zero_add]
 refine CJ hbk ?_
 show (((AL f m++sp)).drop (j*sz)).take _=_
 rw [hf j,ED hj,List.append_assoc,List.drop_append_of_le_length (by rw [Am hf]; exact Nat.le_refl _),List.drop_of_length_le (by rw [Am hf]; exact Nat.le_refl _),List.nil_append,List.append_assoc,List.take_left' (hf j)]
theorem R0 {f:Nat→List Value} {sz m k o:Nat} {sp v:List Value} (hf:∀ k,(f k).length=sz) (hv:v.length=sz) (hk:k<m) (ho:o=0+k*sz):BI (AL f m++sp).toArray o v=(AL (λj=>if j=k then v else f j) m++sp).toArray:=by
 have hl:=Am hf m
 have hkm:k*sz+sz≤m*sz:=by have:=Nat.mul_le_mul_right sz (show k+1≤m from hk); rwa [Nat.succ_mul] at this
 have h1:=DV v o (AL f m++sp).toArray (by rw [List.size_toArray,List.length_append]; omega)
 have h2:=DV v o (AL f m).toArray (by rw [List.size_toArray]; omega)
 have h3:=J' (f:=f) hf hv hk (show o=k*sz by omega)
 rw [h2] at h3
 have h4:=congrArg Array.toList h3
 rw [h1]
 refine congrArg List.toArray ?_
 simp only at h4 ⊢
 rw [← h4,List.take_append_of_le_length om,List.drop_append_of_le_length om,List.append_assoc,List.append_assoc]
theorem LI {f:Nat→List Value} {sz m k o:Nat} {sp:List Value} (hf:∀ k,(f k).length=sz) (hk:k<m) (ho:o=0+k*sz):o+sz≤(AL f m++sp).toArray.size:=by
 have hkm:k*sz+sz≤m*sz:=by have:=Nat.mul_le_mul_right sz (show k+1≤m from hk); rwa [Nat.succ_mul] at this
 rw [List.size_toArray,List.length_append,Am hf]
 omega
end Sy
end
section
namespace Cu
open Go.RowKit Sy
def Bp (z:Int) (x:Nat):List Value:=.int .i64 z::fws x
section
variable (At:Nat→Int) (sx:Nat→Nat) (n:Nat→Nat) (X Y:Nat→Nat→Nat) (I:Nat→Nat→Bool)
def II (i:Nat):Bool:=decide (0≤At i) && (decide (At i<(n i:Int)) && D7 (sx i) (X i (At i).toNat) (Y i (At i).toNat) (I i (At i).toNat))
def Fa (NS NR:Nat):Bool:=decide (NS=NR) && (List.range NR).all (II At sx n X Y I)
end
section
variable {At:Nat→Int} {sx:Nat→Nat} {n:Nat→Nat} {X Y:Nat→Nat→Nat} {I:Nat→Nat→Bool} {NS NR k q:Nat}
theorem Wj (h:At k<0):II At sx n X Y I k=false:=by unfold II; rw [decide_eq_false (by omega:¬ 0≤At k)]; rfl
theorem UH (h:At k ≥ ((n k:Nat):Int)):II At sx n X Y I k=false:=by unfold II; rw [decide_eq_false (by omega:¬ At k<(n k:Int)),Bool.false_and,Bool.and_false]
theorem UG (h1:¬ At k<0) (h2:¬ At k ≥ ((n k:Nat):Int)) (hq:At k=(q:Int)):II At sx n X Y I k=D7 (sx k) (X k q) (Y k q) (I k q):=by
 unfold II
 rw [decide_eq_true (by omega:0≤At k),decide_eq_true (by omega:At k<(n k:Int)),hq]
 rfl
theorem UI (h:¬ NS=NR):Fa At sx n X Y I NS NR=false:=by unfold Fa; rw [decide_eq_false h]; rfl
theorem ML (hk:k<NR) (h:II At sx n X Y I k=false):Fa At sx n X Y I NS NR=false:=by
 unfold Fa
 rw [show (List.range NR).all (II At sx n X Y I)=false from List.all_eq_false.2 ⟨k,List.mem_range.2 hk,by rw [h]; decide⟩,Bool.and_false]
theorem UJ (h1:NS=NR) (h:∀ j,j<NR→II At sx n X Y I j=true):Fa At sx n X Y I NS NR=true:=by
 unfold Fa
 rw [decide_eq_true h1,List.all_eq_true.2 λj hj=>h j (List.mem_range.1 hj)]
 rfl
end
theorem Wk (w:World) (S:Option Addr) (NS cS:Nat) (At:Nat→Int) (sx:Nat→Nat) (hsx:∀ i,sx i<K4) (hNS:NS≤4611686018427387904) (hls:Lst w 5 S NS (λi=>Bp (At i) (sx i))) (R:Option Addr) (NR cR:Nat) (a:Nat→Option Addr) (n c:Nat→Nat) (X Y:Nat→Nat→Nat) (I:Nat→Nat→Bool) (hX:∀ i k,X i k<K4) (hY:∀ i k,Y i k<K4) (hNR:NR≤4611686018427387904) (hn:∀ i,n i≤4611686018427387904) (hlr:Lst w 1 R NR (λi=>[.slice (a i) (n i) (c i)])) (hlk:∀ i,i<NR→Lst w 9 (a i) (n i) (λk=>pml (X i k) (Y i k) (I i k))):AY 119 #[.slice S NS cS,.slice R NR cR] w (Gets w (.bool (Fa At sx n X Y I NS NR))):=by
 have hls0:=hls
 obtain ⟨gS,oS,hS⟩:=hls
 have hlr0:=hlr
 obtain ⟨gR,oR,hR⟩:=hlr
 refine Sy.enter (args:=[.slice S NS cS,.slice R NR cR]) Tryz.func119 U kL<|sC<|sp U<|sG<|Sy.seq<|sC<|sp U<|sP (iZ NS)<|sp U<|sP (iZ NR) ?_
 obtain ⟨b1,hb1⟩:=xE (decide (NS≠NR))
 refine sS (.bool b1) (qne U U U hb1)<|sG ?_
 cases b1
 ·have lb1:=dN hb1
  refine sU<|Sy.skip<|Sy.then_<|Sy.seq<|sC<|sp U<|sP (iZ NR)<|sp U<|sG<|Sy.block<|Sy.loopH NR (λk1=>∀ j,j<k1→II At sx n X Y I j=true) (λk1=>[(0,.slice S NS cS),(1,.slice R NR cR),(13,.slice R NR cR),(14,iZ NR),(15,iZ k1)]) (λk1=>[]) [] (M:=[]) (λj hj=>absurd hj (Nat.not_lt_zero _)) ac5 kR U (λk1 hk1 hh=>?_)
  have hh1:=hh
  refine sC ?_
  obtain ⟨b2,hb2⟩:=xE (decide (k1<NR))
  refine sS (.bool b2) (qls U U U hb2)<|sG<|Sy.seq ?_
  cases b2
  ·have lb2:=dN hb2
   refine sU<|Sy.exit<|Sy.then_exit<|Sy.then_exit ?_
   obtain rfl:NR=k1:=om
   refine Sy.in_exit<|sB<|sp U<|sG<|Sy.ret ?_
   rw [show (.bool (Fa At sx n X Y I NS NR):Value)=.bool true from by rw [UJ om (λj hj=>hh1 j om)]]
   exact rV (.bool true) rfl
  ·have lb2:=dY hb2
   refine sT<|Sy.skip<|Sy.then_<|Sy.seq<|Sy.block<|sC<|sp U<|sS (.pointer (some ⟨gR,oR+k1*1,none⟩)) (Quiet.pure (Af 73 _ _ _ R gR oR NR cR k1 1 .i64 (hR om).1 U U U D0 kF om))<|sS (.slice (a k1) (n k1) (c k1)) (Quiet.thereOne gR (oR+k1*1) 54 _ _ U kR (hR om).2.1 _ (Ar ((hR om).2.2 k1 om) 0 U) CE U)<|sp U<|sp U<|sA<|sp U<|sp U<|sS (.pointer (some ⟨gS,oS+k1*5,none⟩)) (Quiet.pure (Af 52 _ _ _ S gS oS NS cS k1 5 .i64 (hS om).1 U U U Ob kF om))<|sP (.pointer (some ⟨gS,oS+k1*5+0,none⟩))<|sS (.int .i64 (At k1)) (Quiet.thereOne gS (oS+k1*5+0) 3 _ _ U kR (hS om).2.1 _ (Ar ((hS om).2.2 k1 om) 0 U) uy3 U)<|sp U<|sH (λj=>false) ?_
   refine sz 0 U U ?_
   obtain ⟨b3,hb3⟩:=xE (decide ((At k1)<0))
   refine sD 1 U (.bool b3) (Quiet.pure (AK .lss _ _ _ .i64 _ _ _ U U U (Hb _ _ _ _ _ hb3.symm)))<|sz 2 U U ?_
   cases b3
   ·have lb3:=dN hb3
    refine sz 3 U U<|sz 4 U U<|sZ 5 U (iZ ((n k1))) ?_
    obtain ⟨b4,hb4⟩:=xE (decide ((At k1) ≥ (((n k1):Nat):Int)))
    refine sD 6 U (.bool b4) (Quiet.pure (AK .geq _ _ _ .i64 _ _ _ U U U (GN _ _ _ _ _ hb4.symm)))<|sZ 7 U (.bool b4)<|sz 8 U U ?_
    cases b4
    ·have lb4:=dN hb4
     refine sz 9 U U<|sz 10 U U<|sD 11 U (.pointer (some ⟨gS,oS+k1*5,none⟩)) (Quiet.pure (Af 52 _ _ _ S gS oS NS cS k1 5 .i64 (hS om).1 U U U Ob kF om))<|sZ 12 U (.pointer (some ⟨gS,oS+k1*5+1,none⟩))<|sD 13 U (fv (sx k1)) (Quiet.there gS (oS+k1*5+1) 4 26 (fws (sx k1)) _ _ U kR (hS om).2.1 (RT ((hS om).2.2 k1 om) 1 U) Au U kR U _ U)<|sz 14 U U<|sz 15 U U ?_
     obtain ⟨gK,oK,hT⟩:=hlk k1 om
     obtain ⟨q1,hq1⟩:∃ q:Nat,(At k1)=(q:Int):=⟨((At k1)).toNat,by omega⟩
     refine sD 16 U (.pointer (some ⟨gK,oK+q1*9,none⟩)) (Quiet.pure (Af 54 _ _ _ (a k1) gK oK (n k1) (c k1) q1 9 .i64 (hT om).1 U U (show Value.int .i64 (At k1)=iZ q1 from by rw [hq1]) CE kF om))<|sD 17 U (pv (X k1 q1) (Y k1 q1) (I k1 q1)) (Quiet.there gK (oK+q1*9) 9 37 (pml (X k1 q1) (Y k1 q1) (I k1 q1)) _ _ U kR (hT om).2.1 ((hT om).2.2 q1 om) AX U kR U _ U) ?_
     obtain ⟨b5,hb5⟩:=xE (D7 (sx k1) (X k1 q1) (Y k1 q1) (I k1 q1))
     refine sD 18 U (.bool b5) (qf (λw=>by rw [hb5]; exact Ri w _ _ _ _ (hsx k1) (hX k1 q1) (hY k1 q1))) ?_
     cases b5
     ·refine sZ 19 U (.bool true)<|sZ 20 U (.bool true) ?_
      refine sI<|sT<|sC<|sp U<|sG<|Sy.ret<|Sy.in_ret<|Sy.then_ret<|Sy.then_ret<|Sy.in_ret<|Sy.then_ret ?_
      rw [show (.bool (Fa At sx n X Y I NS NR):Value)=.bool false from by rw [ML om ((UG lb3 lb4 hq1).trans hb5.symm)]]
      exact rV (.bool false) rfl
     ·refine sZ 19 U (.bool false)<|sZ 20 U (.bool false) ?_
      refine sI<|sU<|Sy.skip<|Sy.in_<|Sy.then_<|Sy.region<|sS (iZ (k1+1)) (qad U U U)<|sp U<|Sy.nil ?_
      exact Sy.againH [] (M:=[]) om (λj hj=>(Nat.lt_succ_iff_lt_or_eq.1 hj).elim (hh1 j) (λh=>by rw [h]; exact (UG lb3 lb4 hq1).trans hb5.symm)) ac5 kR U
    ·have lb4:=dY hb4
     refine sQ 9 U<|sQ 10 U<|sQ 11 U<|sQ 12 U<|sQ 13 U<|sQ 14 U<|sQ 15 U<|sQ 16 U<|sQ 17 U<|sQ 18 U<|sQ 19 U<|sZ 20 U (.bool true)<|sI<|sT<|sC<|sp U<|sG<|Sy.ret<|Sy.in_ret<|Sy.then_ret<|Sy.then_ret<|Sy.in_ret<|Sy.then_ret ?_
     rw [show (.bool (Fa At sx n X Y I NS NR):Value)=.bool false from by rw [ML om (UH lb4)]]
     exact rV (.bool false) rfl
   ·have lb3:=dY hb3
    refine sQ 3 U<|sQ 4 U<|sQ 5 U<|sQ 6 U<|sZ 7 U (.bool true)<|sz 8 U U<|sQ 9 U<|sQ 10 U<|sQ 11 U<|sQ 12 U<|sQ 13 U<|sQ 14 U<|sQ 15 U<|sQ 16 U<|sQ 17 U<|sQ 18 U<|sQ 19 U<|sZ 20 U (.bool true)<|sI<|sT<|sC<|sp U<|sG<|Sy.ret<|Sy.in_ret<|Sy.then_ret<|Sy.then_ret<|Sy.in_ret<|Sy.then_ret ?_
    rw [show (.bool (Fa At sx n X Y I NS NR):Value)=.bool false from by rw [ML om (Wj lb3)]]
    exact rV (.bool false) rfl
 ·have lb1:=dY hb1
  refine sT<|sC<|sp U<|sG<|Sy.ret<|Sy.then_ret ?_
  rw [show (.bool (Fa At sx n X Y I NS NR):Value)=.bool false from by rw [UI lb1]]
  exact rV (.bool false) rfl
section
variable (bm sd:AF) (X Y:Nat→Nat→Nat) (I:Nat→Nat→Bool) (at_:Nat→Nat) (nk:Nat→Nat) (sx:Nat→Nat)
def sgX (i:Nat):List UInt8:=Ay (evP (rgN bm sd i))
def sgL (i:Nat):List UInt8:=alX (rgF bm sd i) bm i (at_ i+1) (X i) (Y i) (I i) (sgX bm sd i) (nk i - (at_ i+1))
def Gb:Nat→List UInt8
 | 0=>[]
 | k+1=>Gb k++sgL bm sd X Y I at_ nk k
def sgD (NR:Nat):List UInt8:=rgT bm (Gb bm sd X Y I at_ nk NR)
def sgE (d:AF) (i:Nat):Nat:=rgC bm (alX (rgF bm sd i) bm i 0 (X i) (Y i) (I i) d (at_ i)) i (at_ i)
def sgS (d:AF) (i j:Nat):Nat:=if j=at_ i then Sc.subP (rgN bm sd i) (Sc.mulP (sgE bm sd X Y I at_ d i) (sx i)) else rgF bm sd i j
def sgK (d:AF) (k i j:Nat):List Value:=fws (if i<k then sgS bm sd X Y I at_ sx d i j else rgF bm sd i j)
def sgF (d:AF) (i j:Nat):List Value:=fws (sgS bm sd X Y I at_ sx d i j)
end
section
variable {bm sd:AF} {X Y:Nat→Nat→Nat} {I:Nat→Nat→Bool} {at_:Nat→Nat} {nk:Nat→Nat} {sx:Nat→Nat} {d:AF}
theorem Lq (i:Nat):(sgX bm sd i).length=33:=Ai _
theorem ZC {s:Nat→Nat} {i f k:Nat} {X Y:Nat→Nat} {I:Nat→Bool} {x:AF} (h:x.length=33):(alX s bm i f X Y I x k).length=33:=by
 rcases Nat.eq_zero_or_pos k with h0 | h0
 ·rw [h0]; exact h
 ·exact I_ h0
theorem QD (i:Nat):(sgL bm sd X Y I at_ nk i).length=33:=ZC (Lq i)
theorem JU:∀ k,(Gb bm sd X Y I at_ nk k).length=33*k
 | 0=>rfl
 | k+1=>by
  show (Gb bm sd X Y I at_ nk k++_).length=_
  rw [List.length_append,JU k,QD]
  omega
theorem Iw (NR:Nat):(sgD bm sd X Y I at_ nk NR).length=32:=Lv _ _
theorem X4 (i j:Nat):sgS bm sd X Y I at_ sx d i j<K4:=by
 unfold sgS
 split
 ·exact Sc.subP_lt _ _
 ·exact Jh _ _ _ _
theorem S9:sgK bm sd X Y I at_ sx d 0=fkF bm sd:=by
 funext i j
 unfold sgK fkF
 rw [if_neg (Nat.not_lt_zero _)]
theorem X8 (k:Nat):sgK bm sd X Y I at_ sx d k k=λj=>fws (rgF bm sd k j):=by
 funext j
 unfold sgK
 rw [if_neg (Nat.lt_irrefl _)]
theorem X7 {k i:Nat} (h:i≠k):sgK bm sd X Y I at_ sx d (k+1) i=sgK bm sd X Y I at_ sx d k i:=by
 funext j
 unfold sgK
 by_cases h1:i<k
 ·rw [if_pos h1,if_pos om]
 ·rw [if_neg h1,if_neg om]
theorem Vf {r:Nat→Slc} {e:TypeId} {NR:Nat} (h:RowsAre r e 4 (sgK bm sd X Y I at_ sx d NR) (Ce nk NR 0)):RowsAre r e 4 (sgF bm sd X Y I at_ sx d) (Ce nk NR 0):=λi=>by
 have q:=h i
 by_cases hi:i<NR
 ·have e:sgK bm sd X Y I at_ sx d NR i=sgF bm sd X Y I at_ sx d i:=by
   funext j
   unfold sgK sgF
   rw [if_pos hi]
  rwa [e] at q
 ·have e:Ce nk NR 0 i=0:=by unfold Ce; rw [if_neg hi]; split <;> rfl
  rw [e,List.range_zero,List.map_nil] at q ⊢
  exact q
theorem Ve (k:Nat):(λj=>if j=at_ k then fws (Sc.subP (rgN bm sd k) (Sc.mulP (sgE bm sd X Y I at_ d k) (sx k))) else fws (rgF bm sd k j))=sgK bm sd X Y I at_ sx d (k+1) k:=by
 funext j
 unfold sgK sgS
 rw [if_pos (Nat.lt_succ_self k)]
 split <;> rfl
end
theorem AlR.tx {A:Option Addr} {n c M:Nat} {l:AF} {v:Value} {Mq:AC} (h:AlR A n c M l v Mq) (hl:0<M→l.length=33) {w0:Base} (T0:AC) (h0:M=0→l.length=n∧n≤c∧c≤33∧∀ w L,St w0 w L→(∀ b∈T0,b∈L)→Sh.Src w A l) :
  ∃ (B:Option Addr) (k:Nat),v=.slice B (if M=0 then n else 33) k∧l.length=(if M=0 then n else 33)∧l.length≤k∧k≤33∧∀ w L,St w0 w L→(∀ b∈T0++Mq,b∈L)→Sh.Src w B l:=by
 rcases h with ⟨h1,rfl,rfl⟩ | ⟨h1,q,rfl,rfl⟩
 ·obtain ⟨a1,a2,a3,a4⟩:=h0 h1
  exact ⟨A,c,by rw [if_pos h1],by rw [if_pos h1,a1],by omega,a3,λw L hw hb=>a4 w L hw (λb h=>hb b (List.mem_append.2 (.inl h)))⟩
 ·have hne:¬ M=0:=om
  have hl:=hl h1
  exact ⟨_,33,by rw [if_neg hne],by rw [if_neg hne,hl],by omega,Nat.le_refl _,λw L hw hb=>Sh.Src.of_blk (hw.blk _ _ _ (hb _ (List.mem_append.2 (.inr (List.mem_singleton.2 U))))).2⟩
theorem X6 {bm sd:AF} {X Y:Nat→Nat→Nat} {I:Nat→Nat→Bool} {at_ nk:Nat→Nat} {q7 i:Nat} {v:Value} {Mq:AC} {w0:Base} (h:AlR (pA q7) 33 33 (nk i - (at_ i+1)) (sgL bm sd X Y I at_ nk i) v Mq) :
  ∃ (B:Option Addr) (k:Nat),v=.slice B 33 k∧(sgL bm sd X Y I at_ nk i).length=33∧(sgL bm sd X Y I at_ nk i).length≤k∧k≤33∧∀ w L,St w0 w L→(∀ b∈[(q7,166,((sgX bm sd i).map bv).toArray)]++Mq,b∈L)→Sh.Src w B (sgL bm sd X Y I at_ nk i):=by
 have q:=AlR.tx (w0:=w0) h (λ_=>QD i) [(q7,166,((sgX bm sd i).map bv).toArray)] (λh0=>by
  have e:sgL bm sd X Y I at_ nk i=sgX bm sd i:=by
   unfold sgL
   rw [h0]
   rfl
  rw [e]
  exact ⟨Lq _,by decide,by decide,λv L hv hb=>Sh.Src.of_blk (hv.blk _ _ _ (hb _ (List.mem_singleton.2 U))).2⟩)
 rw [ite_self] at q
 exact q
theorem X3 {z d:AF} {W:Option Addr} {N c:Nat} (hz:z.length=32) (hd:d.length=32):BI (AV z W N c).toArray 0 (d.map bv).toArray.toList=(AV d W N c).toArray:=by
 have h:=DV (d.map bv) 0 (AV z W N c).toArray (by rw [List.size_toArray,Ag hz,List.length_map,hd]; decide)
 rw [show (d.map bv).toArray.toList=d.map bv from rfl,h]
 refine congrArg List.toArray ?_
 simp only [List.take_zero,List.nil_append,List.length_map,hd]
 unfold AV
 rw [List.drop_left' (by rw [List.length_map,hz])]
def Mf (d:AF) (f:Nat→Nat→List Value) (nk:Nat→Nat) (NR:Nat) (v:Value) (M:AC):Prop:=∃ g r,v=Aq d (pA g) NR NR∧M=(g,117,BF r NR)::Bb r NR∧RowsAre r 26 4 f (Ce nk NR 0)
theorem RI (w:World) (R:Option Addr) (NR cR:Nat) (a:Nat→Option Addr) (nk ck:Nat→Nat) (X Y:Nat→Nat→Nat) (I:Nat→Nat→Bool) (hX:∀ i k,X i k<K4) (hY:∀ i k,Y i k<K4) (hNR:NR≤4611686018427387904) (hnk:∀ i,nk i≤4611686018427387904) (hlr:Lst w 1 R NR (λi=>[.slice (a i) (nk i) (ck i)])) (hlk:∀ i,i<NR→Lst w 9 (a i) (nk i) (λk=>pml (X i k) (Y i k) (I i k))) (hN32:NR≤32) (hn64:∀ i,i<NR→nk i≤64) (hn1:∀ i,i<NR→1≤nk i) (bm:AF) (hbm:bm.length=32) (sd:AF) (hsd:sd.length=32) (S:Option Addr) (cS:Nat) (at_:Nat→Nat) (sx:Nat→Nat) (hsx:∀ i,sx i<K4) (hls:Lst w 5 S NR (λi=>Bp ((at_ i:Nat):Int) (sx i))) (hat:∀ i,i<NR→at_ i<nk i) (ht:Sh.TabAt w 1):AY 120 #[CK R NR cR bm,.agg (sd.map bv).toArray,.slice S NR cS] w (GetsN w (Mf (sgD bm sd X Y I at_ nk NR) (sgF bm sd X Y I at_ sx (sgD bm sd X Y I at_ nk NR)) nk NR)):=by
 have hlr0:=hlr
 obtain ⟨gR,oR,hR⟩:=hlr
 obtain ⟨gQ,oQ,hQ⟩:=hls
 refine Sy.enter (args:=[CK R NR cR bm,.agg (sd.map bv).toArray,.slice S NR cS]) Tryz.func120 U kL<|sC<|sM 132 (Bj R NR cR bm).toArray (λg0=>?_)
 refine sM 23 (sd.map bv).toArray (λg1=>?_)
 refine sM 69 zS33.toArray (λg2=>?_)
 refine sA<|sS (CK R NR cR bm) (qx 0 0 33 U U EP (B4 hbm) (CY hbm))<|sS (.agg (sd.map bv).toArray) (qx 1 0 32 U U Dc (BO sd hsd) (Bf sd hsd))<|Sy.callN kR 186 #[CK R NR cR bm,.agg (sd.map bv).toArray] kF (IV 117 26 4 (fkF bm sd) (Ce nk NR 0) NR) (λw hw=>PV w R NR cR a nk ck X Y I hX hY hNR hnk (hlr0.below hw.below) (λi hi=>(hlk i hi).below hw.below) hN32 hn64 bm hbm sd hsd (ht.below hw.below ht.lt)) (λvq Mq hR0=>?_)
 obtain ⟨gF,r0,rfl,rfl,hr0⟩:=hR0
 refine Sy.permS (M:=[(g0,132,(Bj R NR cR bm).toArray),(g1,23,(sd.map bv).toArray),(g2,69,zS33.toArray),(gF,117,(BF r0 NR))]++(Bb r0 NR++(nilS.bl++[]))) (by show List.Perm _ ([(g0,132,(Bj R NR cR bm).toArray),(g1,23,(sd.map bv).toArray),(g2,69,zS33.toArray),(gF,117,(BF r0 NR))]++(Bb r0 NR++[])); rw [List.append_nil]; exact List.Perm.refl _)<|sP (Aq (List.replicate 32 (0:UInt8)) (pA gF) NR NR)<|sM 69 zS33.toArray (λg3=>?_)
 refine Sy.movT<|sw 4 U (AV (List.replicate 32 (0:UInt8)) (pA gF) NR NR).toArray (Writes.row 69 (AV (List.replicate 32 (0:UInt8)) (pA gF) NR NR) 33 _ _ U kR kR kR (Ag List.length_replicate) (by rw [List.size_toArray,Ag List.length_replicate]) CG)<|Sy.setT<|sA<|Sy.sp U<|sG<|Sy.seq<|sC<|Sy.sp U<|sP (iZ NR)<|Sy.sp U<|sG<|Sy.block<|Sy.loopT (Y:=Slc×AC×List Sh.Tx) NR (λk1 y1=>[(2,.slice S NR cS),(3,pT g0 0),(4,pT g1 0),(6,pT g2 0),(7,pT g3 0),(8,y1.1.v),(20,.slice S NR cS),(21,iZ NR),(22,iZ k1)]) (λk1 y1=>[(g0,132,(Bj R NR cR bm).toArray),(g1,23,(sd.map bv).toArray),(g2,69,zS33.toArray),(gF,117,(BF r0 NR)),(g3,69,(AV (List.replicate 32 (0:UInt8)) (pA gF) NR NR).toArray)]++(Bb r0 NR++(y1.1.bl++y1.2.1))) (λk1 y1=>TxsIs (Base.of w) 29 y1.1 y1.2.1 y1.2.2∧Sh.cat y1.2.2=Gb bm sd X Y I at_ nk k1∧y1.2.2.length=k1) (nilS,[],[]) ⟨TxsIs.nil _ _,rfl,rfl⟩ ac9 (λw hw=>hw) (λk1 y1 hk1 hh1=>?_)
 refine sC ?_
 obtain ⟨b1,hb1⟩:=xE (decide (k1<NR))
 refine sS (.bool b1) (qls U U U hb1)<|sG<|Sy.seq ?_
 cases b1
 ·have lb1:=dN hb1
  refine sU<|Sy.exit<|Sy.then_exit<|Sy.then_exit ?_
  obtain rfl:NR=k1:=om
  refine Sy.in_exit<|sB<|sS (CK R NR cR bm) (qx 0 0 33 U U EP (B4 hbm) (CY hbm))<|Sy.sp U ?_
  obtain ⟨d0,hd0⟩:=xE (sgD bm sd X Y I at_ nk NR)
  have hdl:d0.length=32:=by rw [hd0]; exact Iw _
  refine sS (.agg (d0.map bv).toArray) (qg (args:=#[CK R NR cR bm,y1.1.v]) (λw hw=>by obtain ⟨Q,dd,hv,hc9,_,htx⟩:=hh1.1.texts; rw [hv,hd0]; have hel:=JU (bm:=bm) (sd:=sd) (X:=X) (Y:=Y) (I:=I) (at_:=at_) (nk:=nk) NR; have q:=KA w R NR cR bm hbm Q _ dd y1.2.2 (htx hw (λb hb=>List.mem_append.2 (.inr (List.mem_append.2 (.inr (List.mem_append.2 (.inl hb)))))) (λb hb=>List.mem_append.2 (.inr (List.mem_append.2 (.inr (List.mem_append.2 (.inr hb))))))) (hh1.1.ok w _ hw (λb hb=>List.mem_append.2 (.inr (List.mem_append.2 (.inr (List.mem_append.2 (.inr hb))))))) U hc9 om (by rw [hh1.2.1]; omega) (ht.below hw.below ht.lt); rw [hh1.2.1] at q; exact q))<|sP (pT g3 0)<|sw 4 U (AV d0 (pA gF) NR NR).toArray (Writes.store 0 23 (d0.map bv).toArray _ _ U kR kR (by rw [Cm d0 hdl]; kernel_rfl) (by rw [Cm d0 hdl,List.size_toArray,Ag List.length_replicate]; decide) (EZ _) (X3 List.length_replicate hdl))<|Sy.setT<|sG<|Sy.seq<|sC<|Sy.sp U<|sP (iZ NR)<|Sy.sp U<|sG<|Sy.block<|Sy.loopT (Y:=Nat→Slc) NR (λk1 y1=>[(3,pT g0 0),(4,pT g1 0),(6,pT g2 0),(7,pT g3 0),(60,.slice S NR cS),(61,iZ NR),(62,iZ k1)]) (λk1 y1=>[(g0,132,(Bj R NR cR bm).toArray),(g1,23,(sd.map bv).toArray),(g2,69,zS33.toArray),(gF,117,(BF y1 NR)),(g3,69,(AV d0 (pA gF) NR NR).toArray)]++(Bb y1 NR++[])) (λk1 y1=>RowsAre y1 26 4 (sgK bm sd X Y I at_ sx d0 k1) (Ce nk NR 0)) r0 (by rw [S9]; exact hr0) ac7 (λw hw=>(hw.less ((List.Sublist.refl _).append ((List.Sublist.refl _).append (List.nil_sublist _))))) (λk1 y1 hk1 hh1=>?_)
  refine sC ?_
  obtain ⟨b2,hb2⟩:=xE (decide (k1<NR))
  refine sS (.bool b2) (qls U U U hb2)<|sG<|Sy.seq ?_
  cases b2
  ·have lb2:=dN hb2
   refine sU<|Sy.exit<|Sy.then_exit<|Sy.then_exit ?_
   obtain rfl:NR=k1:=om
   refine Sy.in_exit<|sB<|sS (Aq d0 (pA gF) NR NR) (qx 4 0 33 U U Cw (Be hdl) (Cc hdl))<|sw 2 U (AV d0 (pA gF) NR NR).toArray (Writes.row 69 (AV d0 (pA gF) NR NR) 33 _ _ U kR kR kR (Ag hdl) (by rw [List.size_toArray,Ag List.length_replicate]) CG)<|Sy.setT<|sG<|Sy.ret ?_
   exact retGM ((gF,117,BF y1 NR)::Bb y1 NR) rfl (v:=Aq d0 (pA gF) NR NR) (.inl (Res.cell (ty':=69) g2 2 (AV d0 (pA gF) NR NR).toArray _ kR kR Cw U (by rw [List.size_toArray,Ag hdl]; kernel_rfl) rfl)) (λw hw=>by simpa using St.pick (pre:=[(g0,132,(Bj R NR cR bm).toArray),(g1,23,(sd.map bv).toArray),(g2,69,(AV d0 (pA gF) NR NR).toArray),(gF,117,(BF y1 NR)),(g3,69,(AV d0 (pA gF) NR NR).toArray)]) (M:=[(gF,117,BF y1 NR)]) [3] dZ kR hw) ⟨gF,y1,by rw [hd0],rfl,by rw [← hd0]; exact Vf hh1⟩
  ·have lb2:=dY hb2
   have hnk1:=hn64 k1 lb2
   have hat1:=hat k1 lb2
   obtain ⟨gk,ck2,sp,hkv,hkb,hk1s,hk2s,hk3s⟩:=(show (y1 k1).Is _ _ _ from hh1 k1).open (by rw [Ew lb2]; omega)
   rw [Ew lb2] at hkv hkb hk1s hk2s
   rw [X8] at hkb
   obtain ⟨fR,hfR⟩:∃ f:Nat→List Value,f=λj=>fws (rgF bm sd k1 j):=⟨_,rfl⟩
   rw [← hfR] at hkb
   have hf4:∀ j,(fR j).length=4:=λj=>by rw [hfR]; rfl
   refine Sy.permC (Sy.out1 y1 lb2 hkb)<|sT<|Sy.skip<|Sy.then_<|Sy.seq<|Sy.block<|sC<|Sy.sp U<|sS (.pointer (some ⟨gQ,oQ+k1*5,none⟩)) (Quiet.pure (Af 52 _ _ _ S gQ oQ NR cS k1 5 .i64 (hQ om).1 U U U Ob kF om))<|sS (.agg (Bp (((at_ k1):Nat):Int) (sx k1)).toArray) (Quiet.there gQ (oQ+k1*5) 5 65 (Bp ((at_ k1:Nat):Int) (sx k1)) _ _ U kR (hQ om).2.1 ((hQ om).2.2 k1 om) Xr U kR U _ U)<|sM 65 (Bp ((0:Nat):Int) 0).toArray (λg4=>?_)
   refine Sy.movT<|Sy.sp U<|sw 6 U (Bp (((at_ k1):Nat):Int) (sx k1)).toArray (Writes.row 65 (Bp (((at_ k1):Nat):Int) (sx k1)) 5 _ _ U kR kR kR U kR (λu hu=>by rcases List.mem_cons.1 hu with rfl | hu; exact rfl; exact Eb _ u hu))<|Sy.setT<|sH (λj=>false) ?_
   refine sD 0 U (CK R NR cR bm) (qx 0 0 33 U U EP (B4 hbm) (CY hbm))<|sZ 1 U (pT g3 0)<|sZ 2 U (.slice (pA g3) 32 32)<|sZ 3 U (pT g3 32)<|sD 4 U (.slice (pA gF) NR NR) (qy 4 32 U U EL (JT hdl))<|sz 5 U U<|sD 6 U (.pointer (some ⟨gF,0+k1*1,none⟩)) (Quiet.pure (CQ 67 _ _ _ gF 0 NR NR k1 1 .i64 U U U EL kF om))<|sD 7 U (.slice (pA gk) (nk k1) ck2) (qy 3 (0+k1*1) rfl U CU ((Du om U).trans (congrArg some hkv)))<|sz 8 U U<|sZ 9 U (pT g4 0)<|sD 10 U (iZ ((at_ k1))) (qc 6 0 U U uy3)<|Sy.callND 11 U kR kR 189 #[CK R NR cR bm,.slice (pA g3) 32 32,.slice (pA gk) (nk k1) ck2,iZ k1,.int .i64 0,iZ ((at_ k1))] kF (AlR (pA g3) 32 32 (at_ k1) (alX (rgF bm sd k1) bm k1 0 (X k1) (Y k1) (I k1) d0 (at_ k1))) (λw hw=>by have q:=KM w R NR cR a nk ck X Y I hX hY hNR hnk (hlr0.below hw.below) (λi hi=>(hlk i hi).below hw.below) bm hbm (pA g3) d0 32 32 hdl dZ dZ dZ (Lo (hw.get (i:=4) rfl)) (pA gk) (nk k1) ck2 (rgF bm sd k1) (λ_=>Jh _ _ _ _) (by rw [← hfR]; exact QG hf4 hw (List.mem_append.2 (.inl (List.mem_of_getElem? (i:=5) rfl)))) k1 0 (at_ k1) om om om om om (ht.below hw.below ht.lt); rw [Nat.zero_add] at q; exact q) (λvq Mq hR0=>?_)
   obtain ⟨xA,xk,hxv,hxl,hxk,hx33,hxs⟩:=AlR.tx (w0:=Base.of w) hR0 (λh=>I_ h) [(g3,69,(AV d0 (pA gF) NR NR).toArray)] (λh=>by rw [h]; exact ⟨hdl,by decide,by decide,λv L hv hb=>Lo (hv.blk _ _ _ (hb _ (List.mem_singleton.2 U))).2⟩)
   obtain ⟨xn,hxn⟩:=xE ((if at_ k1=0 then 32 else 33))
   rw [← hxn] at hxl hxv
   subst hxv
   refine Sy.permD Sy.end_perm<|sz 12 U U<|sE<|sB<|sS (CK R NR cR bm) (qx 0 0 33 U U EP (B4 hbm) (CY hbm))<|Sy.sp U<|Sy.sp U<|sP (pT g4 0)<|sS (iZ ((at_ k1))) (qC 6 g4 0 65 3 (Bp (((at_ k1):Nat):Int) (sx k1)).toArray U uy3) ?_
   obtain ⟨ek,hek⟩:=xE (sgE bm sd X Y I at_ d0 k1)
   refine sS (fv ek) (qg (λw hw=>by rw [hek]; exact GR w R NR cR bm hbm xA _ xn xk hxl om om om (hxs w _ hw (λb hb=>(List.mem_append.1 hb).elim (λh=>List.mem_append.2 (.inl (by rw [List.mem_singleton.1 h]; exact List.mem_of_getElem? (i:=4) rfl))) (λh=>List.mem_append.2 (.inr (List.mem_append.2 (.inr (List.mem_append.2 (.inr h)))))))) k1 (at_ k1) om om (ht.below hw.below ht.lt)))<|sM 26 (fcs 0) (λg5=>?_)
   refine Sy.movT<|sW 7 g5 26 (fcs 0) (fcs ek) (wS 0 26 (fcs ek) rfl)<|Sy.setT<|sG<|Sy.regionD (λj=>j == 17) kR<|sZ 0 U (pT g3 32)<|sD 1 U (.slice (pA gF) NR NR) (qy 4 32 U U EL (JT hdl))<|sz 2 U U<|sD 3 U (.pointer (some ⟨gF,0+k1*1,none⟩)) (Quiet.pure (CQ 67 _ _ _ gF 0 NR NR k1 1 .i64 U U U EL kF om))<|sD 4 U (.slice (pA gk) (nk k1) ck2) (qy 3 (0+k1*1) rfl U CU ((Du om U).trans (congrArg some hkv)))<|sZ 5 U (pT g4 0)<|sD 6 U (iZ ((at_ k1))) (qC 6 g4 0 65 3 (Bp (((at_ k1):Nat):Int) (sx k1)).toArray U uy3)<|sD 7 U (CK R NR cR bm) (qx 0 0 33 U U EP (B4 hbm) (CY hbm))<|sD 8 U (.agg (sd.map bv).toArray) (qx 1 0 32 U U Dc (BO sd hsd) (Bf sd hsd))<|sz 9 U U ?_
   obtain ⟨kn,hkn⟩:=xE (rgN bm sd k1)
   refine sD 10 U (fv kn) (qg (λw hw=>by rw [hkn]; exact Jv w R NR cR bm hbm sd hsd k1 om (ht.below hw.below ht.lt)))<|sD 11 U (fv ek) (qL 7 g5 0 4 26 26 (fcs ek) rfl Au)<|sZ 12 U (pT g4 1)<|sD 13 U (fv (sx k1)) (qL 6 g4 1 4 65 26 (Bp (((at_ k1):Nat):Int) (sx k1)).toArray U Au) ?_
   obtain ⟨km,hkm⟩:=xE (Sc.mulP ek (sx k1))
   refine sD 14 U (fv km) (qf (λw=>by rw [hkm]; exact Sc.mulF_any w _ _ (by rw [hek]; exact IA _ _ _ _) (hsx _))) ?_
   obtain ⟨ks,hks⟩:=xE (Sc.subP kn km)
   refine sD 15 U (fv ks) (qf (λw=>by rw [hks]; exact Sc.subF_any w _ _ (by rw [hkn]; exact TI _ _ _) (by rw [hkm]; exact Sc.mod_lt _)))<|sD 16 U (.pointer (some ⟨gk,0+(at_ k1)*4,none⟩)) (Quiet.pure (CQ 117 _ _ _ gk 0 (nk k1) ck2 (at_ k1) 4 .i64 U U U CU kF om))<|sX 17 U 5 gk 26 (AL fR (nk k1)++sp).toArray (AL (λj=>if j=(at_ k1) then fws ks else fR j) (nk k1)++sp).toArray (Writes.store (0+(at_ k1)*4) 26 (fcs ks) _ _ U kR kR kR (LI (k:=(at_ k1)) hf4 om U) kR (R0 (k:=(at_ k1)) (v:=fws ks) hf4 U om U))<|Sy.setTD<|sE<|Sy.in_<|Sy.then_<|Sy.region<|sS (iZ (k1+1)) (qad U U U)<|Sy.sp U<|Sy.nil ?_
   exact Sy.againT (DP y1 k1 ⟨.slice (pA gk) (nk k1) ck2,[(gk,26,(AL (λj=>if j=(at_ k1) then fws ks else fR j) (nk k1)++sp).toArray)]⟩) om (hh1.upd (by rw [Ew om, ← Ve, ← hkn, ← hek, ← hkm, ← hks,hfR]; exact Slc.Is.close (λk=>by split <;> rfl) (λk=>by split <;> exact Eb _) hk1s hk2s hk3s) (λi hi=>X7 hi)) ac7 (λw hw=>by rw [Og (by exact hkv.symm)]; exact St.back1 om (St.pick (pre:=[(g0,132,(Bj R NR cR bm).toArray),(g1,23,(sd.map bv).toArray),(g2,69,zS33.toArray),(gF,117,(BF y1 NR)),(g3,69,(AV d0 (pA gF) NR NR).toArray),(gk,26,(AL (λj=>if j=(at_ k1) then fws ks else fR j) (nk k1)++sp).toArray),(g4,65,(Bp (((at_ k1):Nat):Int) (sx k1)).toArray),(g5,26,(fcs ek))]) (M:=[(g0,132,(Bj R NR cR bm).toArray),(g1,23,(sd.map bv).toArray),(g2,69,zS33.toArray),(gF,117,(BF y1 NR)),(g3,69,(AV d0 (pA gF) NR NR).toArray)]++[(gk,26,(AL (λj=>if j=(at_ k1) then fws ks else fR j) (nk k1)++sp).toArray)]) [0,1,2,3,4,5] dZ kR hw))
 ·have lb1:=dY hb1
  have hnk1:=hn64 k1 lb1
  have hat1:=hat k1 lb1
  obtain ⟨wA,wc,hwv,_,_,hwl⟩:=hr0.lst (Ew lb1) lb1
  refine sT<|Sy.skip<|Sy.then_<|Sy.seq<|Sy.block<|sC<|Sy.sp U<|sS (.pointer (some ⟨gQ,oQ+k1*5,none⟩)) (Quiet.pure (Af 52 _ _ _ S gQ oQ NR cS k1 5 .i64 (hQ om).1 U U U Ob kF om))<|sS (.agg (Bp (((at_ k1):Nat):Int) (sx k1)).toArray) (Quiet.there gQ (oQ+k1*5) 5 65 (Bp ((at_ k1:Nat):Int) (sx k1)) _ _ U kR (hQ om).2.1 ((hQ om).2.2 k1 om) Xr U kR U _ U)<|sM 65 (Bp ((0:Nat):Int) 0).toArray (λg6=>?_)
  refine Sy.movT<|Sy.sp U<|sW 5 g6 65 (Bp ((0:Nat):Int) 0).toArray (Bp (((at_ k1):Nat):Int) (sx k1)).toArray (Writes.row 65 (Bp (((at_ k1):Nat):Int) (sx k1)) 5 _ _ U kR kR kR U kR (λu hu=>by rcases List.mem_cons.1 hu with rfl | hu; exact rfl; exact Eb _ u hu))<|Sy.setT<|sA<|sS (CK R NR cR bm) (qx 0 0 33 U U EP (B4 hbm) (CY hbm))<|sS (.agg (sd.map bv).toArray) (qx 1 0 32 U U Dc (BO sd hsd) (Bf sd hsd))<|Sy.sp U<|sS (fv (rgN bm sd k1)) (qg (λw hw=>Jv w R NR cR bm hbm sd hsd k1 om (ht.below hw.below ht.lt)))<|sS (pv gx.val gy.val false) (qf KK)<|sS (pv (pX (evP (rgN bm sd k1))) (pY (evP (rgN bm sd k1))) (pI (evP (rgN bm sd k1)))) (qf (λw=>MA (TI _ _ _) (lt4 _) (lt4 _) (show dec gx.val gy.val false=bP from GQ gx gy bP_on) rfl w))<|Sy.callN kR 156 #[pv (pX (evP (rgN bm sd k1))) (pY (evP (rgN bm sd k1))) (pI (evP (rgN bm sd k1)))] kF ((Dk (evP (rgN bm sd k1)))) (λw hw=>by have q:=KF w (pX (evP (rgN bm sd k1))) (pY (evP (rgN bm sd k1))) (pI (evP (rgN bm sd k1))) (B_ _) (B9 _); rwa [Ap (PX _)] at q) (λvq Mq hR0=>?_)
  obtain ⟨q7,rfl,rfl⟩:=hR0
  refine Sy.movT<|Sy.sp U<|sG<|Sy.regionD (λj=>j == 20) kR<|sz 0 U U<|Sy.stepDB 1 [18,19,20,21] rfl kR (λ_ _ _ _ h=>h) kR (CK R NR cR bm) (qx 0 0 33 U U EP (B4 hbm) (CY hbm))<|Sy.stepDB 2 [18,19,20,21] rfl kR (λ_ _ _ _ h=>h) kR (.slice (pA q7) 33 33) qP<|Sy.stepDB 3 [4,6,7,18,19,20,21] rfl kR (λ_ _ _ _ h=>h) kR (pT g3 32) qP<|Sy.stepDB 4 [6,7,18,19,20,21] rfl kR (λ_ _ _ _ h=>h) kR (.slice (pA gF) NR NR) (qy 4 32 U U EL (JT List.length_replicate))<|Sy.stepDB 5 [6,7,18,19,20,21] rfl kR (λ_ _ _ _ h=>h) kR (iZ k1) qP<|Sy.stepDB 6 [7,18,19,20,21] rfl kR (λ_ _ _ _ h=>h) kR (.pointer (some ⟨gF,0+k1*1,none⟩)) (Quiet.pure (CQ 67 _ _ _ gF 0 NR NR k1 1 .i64 U U U EL kF om)) ?_
  refine Sy.stepDB 7 [18,19,20,21] rfl kR (λ_ _ _ _ h=>h) kR (.slice wA (nk k1) wc) (qy 3 (0+k1*1) rfl U CU ((Du om U).trans (congrArg some hwv)))<|Sy.stepDB 8 [18,19,20,21] rfl kR (λ_ _ _ _ h=>h) kR (iZ k1) qP<|Sy.stepDB 9 [10,11,18,19,20,21] rfl kR (λ_ _ _ _ h=>h) kR (pT g6 0) qP<|Sy.stepDB 10 [11,18,19,20,21] rfl kR (λ_ _ _ _ h=>h) kR (iZ ((at_ k1))) (qC 5 g6 0 65 3 (Bp (((at_ k1):Nat):Int) (sx k1)).toArray U uy3)<|Sy.stepDB 11 [18,19,20,21] rfl kR (λ_ _ _ _ h=>h) kR (iZ ((at_ k1)+1)) (qad U U U)<|Sy.stepDB 12 [13,15,16,17,18,19,20,21] rfl kR (λ_ _ _ _ h=>h) kR (pT g3 32) qP<|Sy.stepDB 13 [15,16,17,18,19,20,21] rfl kR (λ_ _ _ _ h=>h) kR (.slice (pA gF) NR NR) (qy 4 32 U U EL (JT List.length_replicate))<|Sy.stepDB 14 [15,16,17,18,19,20,21] rfl kR (λ_ _ _ _ h=>h) kR (iZ k1) qP<|Sy.stepDB 15 [16,17,18,19,20,21] rfl kR (λ_ _ _ _ h=>h) kR (.pointer (some ⟨gF,0+k1*1,none⟩)) (Quiet.pure (CQ 67 _ _ _ gF 0 NR NR k1 1 .i64 U U U EL kF om))<|Sy.stepDB 16 [17,18,19,20,21] rfl kR (λ_ _ _ _ h=>h) kR (.slice wA (nk k1) wc) (qy 3 (0+k1*1) rfl U CU ((Du om U).trans (congrArg some hwv)))<|Sy.stepDB 17 [18,19,20,21] rfl kR (λ_ _ _ _ h=>h) kR (iZ ((nk k1))) qP ?_
  refine Sy.callND 18 U kR kR 189 #[CK R NR cR bm,.slice (pA q7) 33 33,.slice wA (nk k1) wc,iZ k1,iZ ((at_ k1)+1),iZ ((nk k1))] kF (AlR (pA q7) 33 33 (nk k1 - (at_ k1+1)) (sgL bm sd X Y I at_ nk k1)) (λw hw=>by have q:=KM w R NR cR a nk ck X Y I hX hY hNR hnk (hlr0.below hw.below) (λi hi=>(hlk i hi).below hw.below) bm hbm (pA q7) (sgX bm sd k1) 33 33 (Lq _) dZ dZ dZ (Sh.Src.of_blk (hw.get (i:=6) rfl)) wA (nk k1) wc (rgF bm sd k1) (λ_=>Jh _ _ _ _) (hwl hw (λb hb=>List.mem_append.2 (.inr (List.mem_append.2 (.inl hb))))) k1 (at_ k1+1) (nk k1 - (at_ k1+1)) om om om om om (ht.below hw.below ht.lt); rwa [show at_ k1+1+(nk k1 - (at_ k1+1))=nk k1 by omega] at q) (λvq Mq hR0=>?_)
  obtain ⟨xA,xk,rfl,hxl,hxk,hx33,hxs⟩:=X6 (w0:=Base.of w) hR0
  refine Sy.permD Sy.end_perm3<|Sy.makeD 19 U kR kR 29 #[.slice xA 33 xk] (λg=>.slice (pA g) 1 1) kF (λg7=>?_)
  refine Sy.movTD<|Sy.soleD 20 U (λQ1 hq1=>?_)
  refine Sy.permS Sy.rot_perm<|Sy.appendR kR 58 29 _ _ 1 24 Ik GO U U U U dZ _ _ U hh1.1.row kR [.slice xA 33 xk] rfl (Js _ _ _) 7 g7 29 kR kR (by rw [List.length_map,hh1.2.2]; omega) (by rw [List.length_map,hh1.2.2]; simp only [maxLen]; omega) (λr1 hr1=>?_)
  refine Sy.permS Sy.tor_perm<|hq1 _ _<|Sy.anyOf [21] kR dZ (Sy.each1 ?_)
  refine Sy.oneQuiet U kR r1.v qP<|sE<|Sy.in_<|Sy.then_<|Sy.region<|sS (iZ (k1+1)) (qad U U U)<|Sy.sp U<|Sy.nil ?_
  exact Sy.againT ((r1,y1.2.1++(Mq++[(q7,166,((sgX bm sd k1).map bv).toArray)]),y1.2.2++[(⟨xA,sgL bm sd X Y I at_ nk k1,xk⟩:Sh.Tx)])) om (⟨hh1.1.add (⟨xA,sgL bm sd X Y I at_ nk k1,xk⟩:Sh.Tx) (Mq++[(q7,166,((sgX bm sd k1).map bv).toArray)]) hr1 (by unfold Sh.Tx.val; rw [show (sgL bm sd X Y I at_ nk k1).length=33 from hxl]) (λv L hv hb=>⟨hxs v L hv (λb h=>hb b ((List.mem_append.1 h).elim (λh=>List.mem_append.2 (.inr h)) (λh=>List.mem_append.2 (.inl h)))),hxk,by show xk≤9223372036854775807; omega⟩),by rw [I7,hh1.2.1]; rfl,by rw [List.length_append,hh1.2.2]; rfl⟩) ac9 (λw hw=>St.pick4 (pre:=[(g0,132,(Bj R NR cR bm).toArray),(g1,23,(sd.map bv).toArray),(g2,69,zS33.toArray),(gF,117,(BF r0 NR)),(g3,69,(AV (List.replicate 32 (0:UInt8)) (pA gF) NR NR).toArray),(g6,65,(Bp (((at_ k1):Nat):Int) (sx k1)).toArray),(q7,166,((sgX bm sd k1).map bv).toArray),(g7,29,#[.slice xA 33 xk])]) (M:=[(g0,132,(Bj R NR cR bm).toArray),(g1,23,(sd.map bv).toArray),(g2,69,zS33.toArray),(gF,117,(BF r0 NR)),(g3,69,(AV (List.replicate 32 (0:UInt8)) (pA gF) NR NR).toArray)]) (N:=[(q7,166,((sgX bm sd k1).map bv).toArray)]) [0,1,2,3,4,6] dZ kR hw)
end Cu
end
section
namespace Sy
open Go.RowKit Go.ChangeShapes Go.WideShapes Go.MapKept Go.ChangeMaps Go.WideElems
open Go.WideMaps (KeyLaw ArrKey)
section
variable {P:Program} {w0:Base} {n:Nat} {Q:Exit→Act→World→Prop} {F:AO} {L:AC} {ops:Array Oper} {o:Oper} {l:List Oper} {ex:Nat→Bool} {fuel:Nat} {listed:Array Bool}
end
section
variable {P:Program} {t k e:TypeId} {es:Array MapEntry} {clock:Nat} {ks:List Value}
open Classical in
end
end Sy
end
section
namespace Cu
open Go.RowKit Sy Go.ChangeShapes Go.WideShapes Go.MapKept Go.ChangeMaps Go.WideElems
open Go.WideMaps (KeyLaw ArrKey)
section
variable {m:AF} {T:Int} {N M:Nat} {K:Nat→List UInt8} {Z:Nat→Int} {S:Nat→List UInt8}
end
end Cu
end
section
namespace Cu
open Go.RowKit Sy
section
variable {x:Nat→Nat} {m:AF}
end
section
variable {l:List (List UInt8×List UInt8)} {m:AF}
theorem Ei {w:World} {s n:Nat} {A:Option Addr} {e e':Nat→List Value} (h:Lst w s A n e) (he:∀ i,i<n→e i=e' i):Lst w s A n e':=by
 obtain ⟨g,o,h⟩:=h
 refine ⟨g,o,λhn=>?_⟩
 obtain ⟨h1,h2,h3⟩:=h hn
 exact ⟨h1,h2,λj hj=>by rw [← he j hj]; exact h3 j hj⟩
end
end Cu
end
end Go.Proofs.YtgemfpnlnipfnabGreatDoor
