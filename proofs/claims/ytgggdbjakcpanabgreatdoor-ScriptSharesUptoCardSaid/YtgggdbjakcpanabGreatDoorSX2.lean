/-
  Texts of ours, put together: SymR, Ec, EcM, FeMul, FeRow, FeProd, FeOps, FeMul2, FeNum, FePow, FeRuns, FeEq, FeSqrt, FeInv, Crv, NumEq, Pnt, ZzK, CrvA.
-/
import Derived.Test.YtgggdbjakcpanabGreatDoorSX1
set_option linter.unusedVariables false
set_option linter.unusedSimpArgs false
namespace Go.Proofs.YtgggdbjakcpanabGreatDoor
section
namespace Sy
open Go.RowKit
section
variable {P:Program} {w0:Base} {n:Nat} {Q:Exit→Act→World→Prop} {F:Slots} {L:Blocks} {ops:Array Oper} {o:Oper} {l:List Oper}
def From (w0:Base) (L:Blocks) (A:Option Addr) (news:List Value):Prop:=∀ w,St w0 w L→(news=[]∨∃ a,A=some a∧∀ j u,news[j]? = some u→w.cell? (a.add j)=some u)
theorem From.blk {i g f:Nat} {t:TypeId} {cs:Array Value} {news:List Value} (hL:L[i]? = some (g,t,cs)) (hn:(cs.toList.drop f).take news.length=news):From w0 L (some ⟨g,f,none⟩) news:=λw hw =>
 .inr ⟨_,rfl,λj u hj=>by
  rw [addr_off]
  exact blk_range (hw.get hL) hn j u hj⟩
theorem appendG (hg:good ops n F o=true) (ts e:TypeId) (inf:TypeInfo) (z:Value) (sz by_:Nat) (ht:P.underlying ts=some (.slice e)) (hinf:P.info? e=some inf) (hz:inf.zero=some z) (hs1:inf.size=sz) (hb1:inf.bytes=by_) (hzs:z.cells.size=sz) (h0:0<sz)
  (s x:Operand) (ho:o.op=.call { callee:=.builtin .append,args:=#[s,x],argTypes:=#[ts,ts] })
  (i g len cap:Nat) (old sp:List Value) (hs:evF F s=.slice (some ⟨g,0,none⟩) len cap) (hL:L[i]? = some (g,e,(old++sp).toArray)) (hlen:old.length=len*sz) (hsp:sp.length+len*sz=cap*sz) (hmax:cap≤maxLen)
  (A:Option Addr) (m c:Nat) (news:List Value) (hx:evF F x=.slice A m c) (hf:From w0 L A news) (hm:news.length=m*sz) (hmc:m≤c) (h1:∀ u∈news,u.oneCell'=true) (hsmall:(len+m)*by_≤140737488355328) (h63:len+m≤maxLen)
  (h:∀ (g' cap':Nat) (sp':List Value),sp'.length+(len+m)*sz=cap'*sz→len+m≤cap'→cap'≤maxLen→wpS P w0 n ops Q (putF F o.dst (.slice (some ⟨g',0,none⟩) (len+m) cap')) (L.set i (g',e,(old++news++sp').toArray)) l):wpS P w0 n ops Q F L (o::l):=λa w ha hw=>by
 obtain ⟨k1,_,k3,_⟩:=good_spec hg
 refine wpList_step λK hK=>?_
 rw [if_pos (ha.wanted k1)]
 have hb:=hw.get hL
 have hle:len≤cap:=Nat.le_of_mul_le_mul_right (by omega) h0
 have step:∀ v' w',(Builtin.append_ #[ts,ts] o.type #[.slice (some ⟨g,0,none⟩) len cap,.slice A m c]).run P w=.ok v' w'→K (a.put o.dst v') w'→o.wp P a w K Q:=λv' w' hr hk=>by
  unfold Oper.wp
  rw [good_exec hg ha]
  unfold execOp
  simp only [ho,resolve,invoke,builtin,Sem.run_bind,Sem.run_pure,Result.andThen_ok,List.map_toArray,List.map_cons,List.map_nil,hs,hx,hr]
  exact hk
 rcases hf w hw with rfl | ⟨ad,rfl,hn⟩
 ·have hm0:m=0:=by
   rcases Nat.eq_zero_or_pos m with h | h
   ·exact h
   ·have:=Nat.mul_pos h h0
    simp at hm
    omega
  subst hm0
  have hr:(Builtin.append_ #[ts,ts] o.type #[.slice (some ⟨g,0,none⟩) len cap,.slice A 0 c]).run P w=.ok (.slice (some ⟨g,0,none⟩) len cap) w:=by
   have hfc:(Builtin.firstCells inf.size 0 (.slice A 0 c)).run P w=.ok #[] w:=by
    cases A with
    | none=>simp [Builtin.firstCells,Sem.run_pure]
    | some a=>simpa using run_firstCells_some (P:=P) w inf.size 0 a 0 c [] (by simp) (λj u hj=>by cases hj)
   have hst:∀ a:Addr,(storeCells a []).run P w=.ok () w:=λa=>by simp [storeCells,Sem.run_pure]
   simp [Builtin.append_,run_underlying ht,sizeOf,typeInfo,hinf,hle,Builtin.lenOf,hfc,hst]
  refine step _ w hr ?_
  have hset:L.set i (g,e,(old++[]++sp).toArray)=L:=by
   rw [List.append_nil]
   refine List.ext_getElem? λj=>?_
   rw [List.getElem?_set]
   by_cases e':i=j
   ·subst e'
    rw [if_pos rfl,if_pos (List.getElem?_eq_some_iff.1 hL).1,hL]
   ·rw [if_neg e']
  refine hK _ _ (h g cap sp (by simpa using hsp) (by omega) hmax _ _ (ha.put k3 _) ?_)
  rw [hset]
  exact hw
 ·have hown:w.ownsRow 0 e sz (.slice (some ⟨g,0,none⟩) len cap) len old:=⟨hlen,.inr ⟨g,cap,_,rfl,Nat.zero_le _,hb,hle,hmax,by rw [List.size_toArray,List.length_append]; omega,by show (old++sp).take _=old; rw [List.take_left' hlen]⟩⟩
  have last:∀ (w':World) (g' cap':Nat) (cur:Array Value),cur.size=cap'*sz→len+m≤cap'→cap'≤maxLen→cur.toList.take ((len+m)*sz)=old++news→St w0 w' (L.set i (g',e,cur))→K (a.put o.dst (.slice (some ⟨g',0,none⟩) (len+m) cap')) w':=λw' g' cap' cur h2 h2' h3 h4 h5=>by
   have hc:cur=(old++news++cur.toList.drop ((len+m)*sz)).toArray:=by
    rw [← h4,List.take_append_drop]
   rw [hc] at h5
   refine hK _ _ (h g' cap' _ ?_ h2' h3 _ _ (ha.put k3 _) h5)
   have h6:=Nat.mul_le_mul_right sz h2'
   rw [List.length_drop,Array.length_toList,h2]
   omega
  rcases Nat.lt_or_ge cap (len+m) with hlt | hge
  ·obtain ⟨v',w',hr,hrow,hgr⟩:=run_append_arg_grows (P:=P) w ts o.type e inf z sz by_ ht hinf hz hs1 hb1 hzs h0 ⟨g,0,none⟩ len cap old hlen (hown.cells (g:=g) rfl) ad m c news hm hn hlt h63 hsmall
   refine step v' w' hr ?_
   rcases hrow.2 with ⟨rfl,h0'⟩ | ⟨g',cap',cur,rfl,q1,q2,q3,q4,q5,q6⟩
   ·omega
   ·exact last w' g' cap' cur q5 q3 q4 q6 (hw.setNew (⟨hgr.os,hgr.tape,hgr.output,hgr.size,λk hk=>hgr.block k hk (by simp)⟩) (List.getElem?_eq_some_iff.1 hL).1 q1 q2)
  ·obtain ⟨w',hr,hrow,hgr⟩:=run_append_own_spare (P:=P) w 0 ts o.type e inf sz ht hinf hs1 g len cap old hown ad m c news hm hn h1 hge
   refine step _ w' hr ?_
   rcases hrow.2 with ⟨h0',_⟩ | ⟨g',cap',cur,hv,_,q2,q3,q4,q5,q6⟩
   ·cases h0'
   ·cases hv
    exact last w' g cap cur q5 q3 q4 q6 (hw.set hL hgr q2)
theorem appendGNil (hg:good ops n F o=true) (ts e:TypeId) (inf:TypeInfo) (z:Value) (sz by_:Nat) (ht:P.underlying ts=some (.slice e)) (hinf:P.info? e=some inf) (hz:inf.zero=some z) (hs1:inf.size=sz) (hb1:inf.bytes=by_) (hzs:z.cells.size=sz) (h0:0<sz)
  (s x:Operand) (ho:o.op=.call { callee:=.builtin .append,args:=#[s,x],argTypes:=#[ts,ts] }) (hs:evF F s=.slice none 0 0)
  (A:Option Addr) (m c:Nat) (news:List Value) (hx:evF F x=.slice A m c) (hf:From w0 L A news) (hm:news.length=m*sz) (hm0:0<m) (h1:∀ u∈news,u.oneCell'=true) (hsmall:m*by_≤140737488355328) (h63:m≤maxLen)
  (h:∀ (g' cap':Nat) (sp':List Value),sp'.length+m*sz=cap'*sz→m≤cap'→cap'≤maxLen→wpS P w0 n ops Q (putF F o.dst (.slice (some ⟨g',0,none⟩) m cap')) (L++[(g',e,(news++sp').toArray)]) l):wpS P w0 n ops Q F L (o::l):=λa w ha hw=>by
 obtain ⟨k1,_,k3,_⟩:=good_spec hg
 refine wpList_step λK hK=>?_
 rw [if_pos (ha.wanted k1)]
 rcases hf w hw with rfl | ⟨ad,rfl,hn⟩
 ·have:=Nat.mul_pos hm0 h0
  simp at hm
  omega
 obtain ⟨v',w',hr,hrow,hgr,hnil⟩:=run_append_own (P:=P) w w.heap.size ts o.type e inf z sz by_ ht hinf hz hs1 hb1 hzs h0 (.slice none 0 0) 0 [] (World.ownsRow_nil w _ e sz) ad m c news hm hn h1 (by omega) (by rw [Nat.zero_add]; exact hsmall) (Nat.le_refl _)
 rcases hrow.2 with ⟨_,h0'⟩ | ⟨g',cap',cur,rfl,q1,q2,q3,q4,q5,q6⟩
 ·omega
 have q6':cur.toList.take (m*sz)=news:=by simpa using q6
 unfold Oper.wp
 rw [good_exec hg ha]
 unfold execOp
 simp only [ho,resolve,invoke,builtin,Sem.run_bind,Sem.run_pure,Result.andThen_ok,List.map_toArray,List.map_cons,List.map_nil,hs,hx,hr]
 have hc:cur=(news++cur.toList.drop (m*sz)).toArray:=by rw [← q6',List.take_append_drop]
 rw [hc] at q2
 rw [Nat.zero_add] at q3 ⊢
 refine hK _ _ (h g' cap' _ ?_ q3 q4 _ _ (ha.put k3 _) (hw.add (⟨hgr.os,hgr.tape,hgr.output,hgr.size,λk hk=>hgr.block k hk (by simp [Value.ownBlock])⟩) q1 q2))
 have h6:=Nat.mul_le_mul_right sz q3
 rw [List.length_drop,Array.length_toList,q5]
 omega
theorem permS {M:Blocks} (p:L.Perm M) (h:wpS P w0 n ops Q F M l):wpS P w0 n ops Q F L l:=λa w ha hw=>h a w ha (hw.perm p)
end
end Sy
end
section
namespace Ec
variable {n:Nat} [NeZero n]
structure Fld (n:Nat) [NeZero n] (inv:Fin n→Fin n):Prop where
 one:∀ x:Fin n,x≠0→x*inv x=1
 two:∀ x:Fin n,x+x=0→x=0
 noTwo:∀ x y:Fin n,y*y=x*x*x+7→y≠0
variable {inv:Fin n→Fin n}
theorem Fld.zero (H:Fld n inv) {a b:Fin n} (h:a*b=0):a=0∨b=0:=by
 by_cases ha:a=0
 ·exact .inl ha
 ·have:=H.one a ha
  right; grobner
theorem Fld.cancel (H:Fld n inv) {a b c:Fin n} (ha:a≠0) (h:a*b=a*c):b=c:=by
 have:=H.one a ha
 grobner
abbrev Pt (n:Nat):=Option (Fin n×Fin n)
def On:Pt n→Prop
 | none=>True
 | some (x,y)=>y*y=x*x*x+7
def neg:Pt n→Pt n
 | none=>none
 | some (x,y)=>some (x, -y)
def slp (inv:Fin n→Fin n) (x1 y1 x2 y2:Fin n):Fin n:=if x1=x2 then x1*x1*3*inv (y1+y1) else (y2 - y1)*inv (x2 - x1)
def x3 (l x1 x2:Fin n):Fin n:=l*l - x1 - x2
def y3 (l x1 y1 x2:Fin n):Fin n:=l*(x1 - x3 l x1 x2) - y1
def add (inv:Fin n→Fin n):Pt n→Pt n→Pt n
 | none,q=>q
 | some p,none=>some p
 | some (x1,y1),some (x2,y2)=>if x1=x2∧y1+y2=0 then none else some (x3 (slp inv x1 y1 x2 y2) x1 x2,y3 (slp inv x1 y1 x2 y2) x1 y1 x2)
def Col (x1 y1 x2 y2 x3 y3 l v:Fin n):Prop :=
 y1=l*x1+v∧y2=l*x2+v∧y3=l*x3+v∧l*l=x1+x2+x3 ∧ -(2*l*v)=x1*x2+x1*x3+x2*x3∧x1*x2*x3=v*v - 7
theorem line (H:Fld n inv) {x1 y1 x2 y2:Fin n} (h1:y1*y1=x1*x1*x1+7) (h2:y2*y2=x2*x2*x2+7) (hn:¬ (x1=x2∧y1+y2=0)) :
  Col x1 y1 x2 y2 (x3 (slp inv x1 y1 x2 y2) x1 x2) (-(y3 (slp inv x1 y1 x2 y2) x1 y1 x2)) (slp inv x1 y1 x2 y2) (y1 - slp inv x1 y1 x2 y2*x1):=by
 obtain ⟨l,hl⟩:∃ l,l=slp inv x1 y1 x2 y2:=⟨_,rfl⟩
 rw [← hl]
 unfold slp at hl
 by_cases hx:x1=x2
 ·rw [if_pos hx] at hl
  subst hx
  have hy:y1+y2≠0:=λh=>hn ⟨rfl,h⟩
  have he:y1=y2:=by
   have h0:(y1+y2)*(y1 - y2)=0:=by grobner
   rcases H.zero h0 with h | h
   ·exact absurd h hy
   ·grobner
  subst he
  have hi:=H.one _ hy
  have e:l*(y1+y1)=x1*x1*3:=by rw [hl]; grobner
  clear hl hi
  refine ⟨?_,?_,?_,?_,?_,?_⟩ <;> (try unfold y3) <;> (try unfold x3) <;> grobner
 ·rw [if_neg hx] at hl
  have hd:x2 - x1≠0:=by grobner
  have hi:=H.one _ hd
  have e:l*(x2 - x1)=y2 - y1:=by rw [hl]; grobner
  clear hl hi
  have e2:l*(y1+y2)=x1*x1+x1*x2+x2*x2:=by
   refine H.cancel hd ?_
   grobner
  refine ⟨?_,?_,?_,?_,?_,?_⟩ <;> (try unfold y3) <;> (try unfold x3) <;> grobner
theorem Col.swap {x1 y1 x2 y2 x3 y3 l v:Fin n} (h:Col x1 y1 x2 y2 x3 y3 l v):Col x2 y2 x1 y1 x3 y3 l v:=by
 obtain ⟨a,b,c,d,e,f⟩:=h
 exact ⟨b,a,c,by grobner,by grobner,by grobner⟩
theorem Col.rot {x1 y1 x2 y2 x3 y3 l v:Fin n} (h:Col x1 y1 x2 y2 x3 y3 l v):Col x2 y2 x3 y3 x1 y1 l v:=by
 obtain ⟨a,b,c,d,e,f⟩:=h
 exact ⟨b,c,a,by grobner,by grobner,by grobner⟩
theorem Col.on {x1 y1 x2 y2 x3 y3 l v:Fin n} (h:Col x1 y1 x2 y2 x3 y3 l v):y1*y1=x1*x1*x1+7:=by
 obtain ⟨rfl,rfl,rfl,d,e,f⟩:=h
 grobner
theorem neg_line {x y l v:Fin n} (h:y=l*x+v) : -y = -l*x + -v:=by grobner
theorem Col.flip {x1 y1 x2 y2 x3 y3 l v:Fin n} (h:Col x1 y1 x2 y2 x3 y3 l v):Col x1 (-y1) x2 (-y2) x3 (-y3) (-l) (-v):=by
 obtain ⟨a,b,c,d,e,f⟩:=h
 refine ⟨neg_line a,neg_line b,neg_line c,?_,?_,?_⟩
 ·clear a b c e f; grobner
 ·clear a b c d f; grobner
 ·clear a b c d e; grobner
theorem third {l a c e:Fin n} (s:l*l=a+c+e):l*l - a - c=e:=by grobner
theorem third_y {l v a b e f:Fin n} (p:b=l*a+v) (r:f=l*e+v):l*(a - e) - b = -f:=by grobner
theorem tang {l v a b e:Fin n} (p:b=l*a+v) (s:l*l=a+a+e) (t : -(2*l*v)=a*a+a*e+a*e):a*a*3=(b+b)*l:=by
 have:e=l*l - a - a:=by grobner
 subst p this
 grobner
theorem chord {a b c d l v i:Fin n} (p:b=l*a+v) (q:d=l*c+v) (hi:(c - a)*i=1):(c - a)*((d - b)*i)=(c - a)*l:=by
 subst p q
 grobner
theorem neg_neg' (y:Fin n) : - -y=y:=by grobner
theorem Col.add (H:Fld n inv) {a b c d e f l v:Fin n} (h:Col a b c d e f l v):add inv (some (a,b)) (some (c,d))=some (e, -f)∧¬ (a=c∧b+d=0)∧slp inv a b c d=l:=by
 have h1:=h.on
 have hy:=H.noTwo _ _ h1
 obtain ⟨p,q,r,s,t,u⟩:=h
 have hn:¬ (a=c∧b+d=0):=by
  rintro ⟨rfl,k⟩
  have:b=d:=by grobner
  subst this
  exact hy (H.two _ k)
 have hs:slp inv a b c d=l:=by
  unfold slp
  by_cases hx:a=c
  ·rw [if_pos hx]
   subst hx
   have hd:b=d:=by grobner
   subst hd
   have hb:b+b≠0:=λk=>hy (H.two _ k)
   have hi:=H.one _ hb
   refine H.cancel hb ?_
   have e1:(b+b)*(a*a*3*inv (b+b))=a*a*3:=by grobner
   rw [e1]
   exact tang p s t
  ·rw [if_neg hx]
   have hd:c - a≠0:=by grobner
   have hi:=H.one _ hd
   refine H.cancel hd ?_
   exact chord p q hi
 refine ⟨?_,hn,hs⟩
 simp only [Ec.add]
 rw [if_neg hn,hs]
 refine congrArg some (Prod.ext ?_ ?_)
 ·exact third s
 ·show l*(a - x3 l a c) - b = -f
  rw [show x3 l a c=e from third s]; exact third_y p r
theorem add_zero (P:Pt n):add inv P none=P:=by cases P <;> rfl
theorem zero_add (P:Pt n):add inv none P=P:=by cases P <;> rfl
theorem neg_neg (P:Pt n):neg (neg P)=P:=by
 rcases P with _ | ⟨x,y⟩
 ·rfl
 ·show some (x, - -y)=some (x,y); congr 2; grobner
theorem On.neg {P:Pt n} (h:On P):On (neg P):=by
 rcases P with _ | ⟨x,y⟩
 ·trivial
 ·show -y * -y=_
  have:y*y=x*x*x+7:=h
  grobner
theorem add_neg (P:Pt n):add inv P (neg P)=none:=by
 rcases P with _ | ⟨x,y⟩
 ·rfl
 ·simp only [neg,add]
  rw [if_pos ⟨trivial,by grobner⟩]
theorem neg_add (P:Pt n):add inv (neg P) P=none:=by
 have:=add_neg (inv:=inv) (neg P)
 rwa [neg_neg] at this
theorem add_cases (H:Fld n inv) {x1 y1 x2 y2:Fin n} (h1:y1*y1=x1*x1*x1+7) (h2:y2*y2=x2*x2*x2+7) :
  (x1=x2∧y1+y2=0∧add inv (some (x1,y1)) (some (x2,y2))=none)∨(∃ x y l v,Col x1 y1 x2 y2 x (-y) l v∧add inv (some (x1,y1)) (some (x2,y2))=some (x,y)∧slp inv x1 y1 x2 y2=l):=by
 by_cases hn:x1=x2∧y1+y2=0
 ·left
  refine ⟨hn.1,hn.2,?_⟩
  simp only [add]
  rw [if_pos hn]
 ·right
  have h:=line H h1 h2 hn
  refine ⟨_,_,_,_,h,?_,rfl⟩
  simp only [add]
  rw [if_neg hn]
theorem On.add (H:Fld n inv) {P Q:Pt n} (hP:On P) (hQ:On Q):On (add inv P Q):=by
 rcases P with _ | ⟨x1,y1⟩
 ·rw [zero_add]; exact hQ
 rcases Q with _ | ⟨x2,y2⟩
 ·exact hP
 rcases add_cases H hP hQ with ⟨_,_,h⟩ | ⟨x,y,l,v,h,e,_⟩
 ·rw [h]; trivial
 ·rw [e]
  have:=h.rot.rot.on
  show y*y=_
  grobner
theorem comm (H:Fld n inv) {P Q:Pt n} (hP:On P) (hQ:On Q):Ec.add inv P Q=Ec.add inv Q P:=by
 rcases P with _ | ⟨x1,y1⟩
 ·rw [zero_add,add_zero]
 rcases Q with _ | ⟨x2,y2⟩
 ·rw [zero_add,add_zero]
 rcases add_cases H hP hQ with ⟨a,b,h⟩ | ⟨x,y,l,v,h,e,_⟩
 ·rw [h]
  simp only [Ec.add]
  rw [if_pos ⟨a.symm,by grobner⟩]
 ·rw [e,(h.swap.add H).1]
  congr 2; grobner
theorem neg_sum (H:Fld n inv) {P Q:Pt n} (hP:On P) (hQ:On Q):neg (Ec.add inv P Q)=Ec.add inv (neg P) (neg Q):=by
 rcases P with _ | ⟨x1,y1⟩
 ·rw [zero_add]; exact (zero_add _).symm
 rcases Q with _ | ⟨x2,y2⟩
 ·exact (add_zero _).symm
 rcases add_cases H hP hQ with ⟨a,b,h⟩ | ⟨x,y,l,v,h,e,_⟩
 ·rw [h]
  simp only [neg,Ec.add]
  rw [if_pos ⟨a,by grobner⟩]
 ·rw [e]
  have h':=h.flip
  rw [neg_neg'] at h'
  exact ((h'.add H).1).symm
theorem back (H:Fld n inv) {P Q:Pt n} (hP:On P) (hQ:On Q):Ec.add inv (Ec.add inv P Q) (neg Q)=P:=by
 rcases P with _ | ⟨x1,y1⟩
 ·rw [zero_add,add_neg]
 rcases Q with _ | ⟨x2,y2⟩
 ·rfl
 rcases add_cases H hP hQ with ⟨a,b,h⟩ | ⟨x,y,l,v,h,e,_⟩
 ·rw [h,zero_add]
  show some (x2, -y2)=_
  congr 2
  ·exact a.symm
  ·grobner
 ·rw [e]
  have h':=h.flip.rot.rot.rot.rot.swap
  have h':=h.flip
  rw [neg_neg'] at h'
  have:=(h'.rot.rot.swap.rot.rot.swap.add H).1
  show Ec.add inv (some (x,y)) (some (x2, -y2))=_
  have:=(h'.rot.swap.add H).1
  rw [this,neg_neg']
theorem unadd (H:Fld n inv) {P Q R:Pt n} (hP:On P) (hQ:On Q) (hR:On R) (h:Ec.add inv P R=Ec.add inv Q R):P=Q:=by
 rw [← back H hP hR,h,back H hQ hR]
theorem atF {x1 x2 u l v m k y1:Fin n} (h0:l*u+v+(m*u+k)=0) (h1:y1=l*x1+v) (e1:l*l=x1+x2+u) (e2 : -(2*l*v)=x1*x2+x1*u+x2*u) :
  x1*x1+(u+l*m)*x1+(u*(u+l*m)+l*k+v*m) + -(l+m)*y1=0:=by
 subst h1
 grobner
theorem fn {x1 y1 x2 y2 x3 y3 u v s t l c m d:Fin n} (h:Col x1 y1 x2 y2 u (-v) l c) (k:Col u v x3 y3 s (-t) m d) :
  ∃ A B C:Fin n,x1*x1+B*x1+A+C*y1=0∧x2*x2+B*x2+A+C*y2=0∧x3*x3+B*x3+A+C*y3=0∧s*s+B*s+A+C * -t=0 ∧
   C*C - B - B=x1+x2+x3+s∧C = -(l+m)∧B=u+l*m:=by
 obtain ⟨a1,a2,a3,e1,e2,e3⟩:=h
 obtain ⟨b1,b2,b3,f1,f2,f3⟩:=k
 have h0:l*u+c+(m*u+d)=0:=by rw [← a3, ← b1]; clear a1 a2 a3 b1 b2 b3 e1 e2 e3 f1 f2 f3; grobner
 have h0':m*u+d+(l*u+c)=0:=by clear a1 a2 a3 b1 b2 b3 e1 e2 e3 f1 f2 f3; grobner
 have s1:u*(u+m*l)+m*c+d*l=u*(u+l*m)+l*d+c*m:=by clear a1 a2 a3 b1 b2 b3 e1 e2 e3 f1 f2 f3 h0 h0'; grobner
 have s2 : -(m+l) = -(l+m):=by clear a1 a2 a3 b1 b2 b3 e1 e2 e3 f1 f2 f3 h0 h0'; grobner
 have s3:m*l=l*m:=by clear a1 a2 a3 b1 b2 b3 e1 e2 e3 f1 f2 f3 h0 h0'; grobner
 have q1:=atF h0 a1 e1 e2
 have q2:=atF (x1:=x2) (x2:=x1) h0 a2 (by rw [e1]; clear a1 a2 a3 b1 b2 b3 e1 e2 e3 f1 f2 f3 h0 h0'; grobner) (by rw [e2]; clear a1 a2 a3 b1 b2 b3 e1 e2 e3 f1 f2 f3 h0 h0'; grobner)
 have q3:=atF (x1:=x3) (x2:=s) h0' b2 (by rw [f1]; clear a1 a2 a3 b1 b2 b3 e1 e2 e3 f1 f2 f3 h0 h0'; grobner) (by rw [f2]; clear a1 a2 a3 b1 b2 b3 e1 e2 e3 f1 f2 f3 h0 h0'; grobner)
 have q4:=atF (x1:=s) (x2:=x3) h0' b3 (by rw [f1]; clear a1 a2 a3 b1 b2 b3 e1 e2 e3 f1 f2 f3 h0 h0'; grobner) (by rw [f2]; clear a1 a2 a3 b1 b2 b3 e1 e2 e3 f1 f2 f3 h0 h0'; grobner)
 rw [s1,s2,s3] at q3 q4
 refine ⟨_,_,_,q1,q2,q3,q4,?_,rfl,rfl⟩
 clear a1 a2 a3 b1 b2 b3 e2 e3 f2 f3 h0 h0' q1 q2 q3 q4 s1 s2 s3
 grobner
theorem uniq (H:Fld n inv) {a b c x1 y1 x3 y3 l v:Fin n} (h:b+c*l=0) (h1:b*x1+a+c*y1=0) (h3:b*x3+a+c*y3=0) (hl:y1=l*x1+v) (hK:y3≠l*x3+v):a=0∧b=0∧c=0:=by
 have hc:c*(y3 - (l*x3+v))=0:=by
  have hb:b = -(c*l):=by clear h1 h3 hl; grobner
  subst hb hl
  clear h
  grobner
 rcases H.zero hc with rfl | k
 ·have hb:b=0:=by clear h1 h3 hl hc; grobner
  subst hb
  exact ⟨by clear h h3 hl hc; grobner,rfl,rfl⟩
 ·exact absurd (by clear h h1 h3 hl hc; grobner) hK
theorem third_on (H:Fld n inv) {x1 y1 x2 y2 x3 y3 u v l c:Fin n} (h:Col x1 y1 x2 y2 u (-v) l c) (h3:y3*y3=x3*x3*x3+7) (hl:y3=l*x3+c) (n1:x3≠x1) (n2:x3≠x2):x3=u∧y3 = -v:=by
 obtain ⟨a1,a2,a3,e1,e2,e3⟩:=h
 have hz:(x3 - x1)*((x3 - x2)*(x3 - u))=0:=by
  subst hl
  clear a1 a2 a3 n1 n2
  grobner
 have g:x3=u:=by
  rcases H.zero hz with k | k
  ·exact absurd (by clear a1 a2 a3 e1 e2 e3 h3 hl hz; grobner) n1
  rcases H.zero k with k | k
  ·exact absurd (by clear a1 a2 a3 e1 e2 e3 h3 hl hz; grobner) n2
  ·clear a1 a2 a3 e1 e2 e3 h3 hl hz; grobner
 refine ⟨g,?_⟩
 rw [a3,hl,g]
theorem twoRoots (H:Fld n inv) {A B x y:Fin n} (h:x*x+B*x+A=0) (k:y*y+B*y+A=0) (hn:x≠y):x+y+B=0:=by
 have hz:(x - y)*(x+y+B)=0:=by grobner
 rcases H.zero hz with g | g
 ·exact absurd (by clear h k hz; grobner) hn
 ·exact g
theorem same (H:Fld n inv) {A B C A' B' C' x1 x2 x3 s t s' t':Fin n} (eA:A - A'=0) (eB:B - B'=0) (eC:C - C'=0) (hC:C≠0) (hs:C*C - B - B=x1+x2+x3+s) (hs':C'*C' - B' - B'=x2+x3+x1+s')
  (ht:s*s+B*s+A+C * -t=0) (ht':s'*s'+B'*s'+A'+C' * -t'=0):s=s'∧t=t':=by
 have hA:A'=A:=by clear eB eC hs hs' ht ht' hC; grobner
 have hB:B'=B:=by clear eA eC hs hs' ht ht' hC; grobner
 have hD:C'=C:=by clear eB eA hs hs' ht ht' hC; grobner
 subst hA hB hD
 have e:s=s':=by clear eA eB eC ht ht' hC; grobner
 subst e
 refine ⟨rfl,H.cancel hC ?_⟩
 clear eA eB eC hs hs'
 grobner
theorem sub_at {A B C A' B' C' x y:Fin n} (h:x*x+B*x+A+C*y=0) (k:x*x+B'*x+A'+C'*y=0):(B - B')*x+(A - A')+(C - C')*y=0:=by grobner
theorem off {x1 y1 x2 y2:Fin n} (H:Fld n inv) (h1:y1*y1=x1*x1*x1+7) (h2:y2*y2=x2*x2*x2+7) (hn:¬ (x1=x2∧y1=y2)) (hm:¬ (x1=x2∧y1+y2=0)):x1≠x2:=by
 rintro rfl
 have hz:(y1 - y2)*(y1+y2)=0:=by clear hn hm; grobner
 rcases H.zero hz with g | g
 ·exact hn ⟨rfl,by clear h1 h2 hz hn hm; grobner⟩
 ·exact hm ⟨rfl,g⟩
theorem assoc1 (H:Fld n inv) {x1 y1 x2 y2 x3 y3 u v l c s t m d u' v' l' c' s' t' m' d':Fin n} (h:Col x1 y1 x2 y2 u (-v) l c) (k:Col u v x3 y3 s (-t) m d)
  (h':Col x2 y2 x3 y3 u' (-v') l' c') (k':Col u' v' x1 y1 s' (-t') m' d') (n12:x1≠x2) (n23:x2≠x3) (n13:x1≠x3) (hn:¬ (u=x3∧v+y3=0)):s=s'∧t=t':=by
 have o3:=k.rot.on
 obtain ⟨A,B,C,p1,p2,p3,p4,p5, -, -⟩:=fn h k
 obtain ⟨A',B',C',q2,q3,q1,q4,q5, -, -⟩:=fn h' k'
 have r1:=sub_at p1 q1
 have r2:=sub_at p2 q2
 have r3:=sub_at p3 q3
 have hK:y3≠l*x3+c:=λe=>hn (by
  obtain ⟨g,g'⟩:=third_on H h o3 e (Ne.symm n13) (Ne.symm n23)
  exact ⟨g.symm,by rw [g']; clear g g' r1 r2 r3 p1 p2 p3 p4 p5 q1 q2 q3 q4 q5; grobner⟩)
 have hb:(B - B')+(C - C')*l=0:=by
  have a1:=h.1
  have a2:=h.2.1
  refine H.cancel (a:=x1 - x2) (by intro e; exact n12 (by clear r1 r2 r3 p1 p2 p3 p4 p5 q1 q2 q3 q4 q5; grobner)) ?_
  subst a1 a2
  clear p1 p2 p3 p4 p5 q1 q2 q3 q4 q5 hK r3 o3
  grobner
 obtain ⟨eA,eB,eC⟩:=uniq H hb r1 r3 h.1 hK
 refine same H eA eB eC ?_ p5 q5 p4 q4
 rintro rfl
 have w1:=twoRoots H (A:=A) (B:=B) (x:=x1) (y:=x2) (by clear eA eB eC r1 r2 r3 p2 p3 p4 p5 q1 q2 q3 q4 q5 hb; grobner) (by clear eA eB eC r1 r2 r3 p1 p3 p4 p5 q1 q2 q3 q4 q5 hb; grobner) n12
 have w2:=twoRoots H (A:=A) (B:=B) (x:=x1) (y:=x3) (by clear eA eB eC r1 r2 r3 p2 p3 p4 p5 q1 q2 q3 q4 q5 hb; grobner) (by clear eA eB eC r1 r2 r3 p1 p2 p4 p5 q1 q2 q3 q4 q5 hb; grobner) n13
 exact n23 (by clear eA eB eC r1 r2 r3 p1 p2 p3 p4 p5 q1 q2 q3 q4 q5 hb; grobner)
theorem assoc2 (H:Fld n inv) {x1 y1 x3 y3 u v l c s t m d u' v' l' c' s' t' m' d':Fin n} (h:Col x1 y1 x1 y1 u (-v) l c) (k:Col u v x3 y3 s (-t) m d)
  (h':Col x1 y1 x3 y3 u' (-v') l' c') (k':Col u' v' x1 y1 s' (-t') m' d') (n13:x1≠x3) (hn:¬ (u=x3∧v+y3=0)):s=s'∧t=t':=by
 have o3:=k.rot.on
 have o1:=h.on
 have hy:=H.noTwo _ _ o1
 obtain ⟨A,B,C,p1,p2,p3,p4,p5,p6,p7⟩:=fn h k
 obtain ⟨A',B',C',q1,q3,q2,q4,q5,q6,q7⟩:=fn h' k'
 have r1:=sub_at p1 q1
 have r3:=sub_at p3 q3
 have hK:y3≠l*x3+c:=λe=>hn (by
  obtain ⟨g,g'⟩:=third_on H h o3 e (Ne.symm n13) (Ne.symm n13)
  exact ⟨g.symm,by rw [g']; clear g g' r1 r3 p1 p2 p3 p4 p5 p6 p7 q1 q2 q3 q4 q5 q6 q7; grobner⟩)
 have g1:x1+x1+B+C*l=0:=by
  have:=h.2.2.2.1
  subst p6 p7
  clear p1 p2 p3 p4 p5 q1 q2 q3 q4 q5 q6 q7 r1 r3 hK o1 o3
  grobner
 have ht:x1*x1*3=(y1+y1)*l:=tang h.1 h.2.2.2.1 h.2.2.2.2.1
 have g2:x1+x1+B'+C'*l=0:=by
  have a1:=h'.1
  have a3:=h'.2.2.1
  have b1:=k'.1
  have b2:=k'.2.1
  have ou:=k'.on
  subst q6 q7
  clear p1 p2 p3 p4 p5 p6 p7 q1 q2 q3 q4 q5 r1 r3 hK o3 h k h' k'
  have e2:y1+y1=(l'+m')*(x1 - u'):=by clear ht o1 ou; grobner
  have hd:x1 - u'≠0:=λe=>hy (H.two _ (by rw [e2,e]; clear a1 a3 b1 b2 ou ht o1 e2; grobner))
  have e3:l'*m'*(x1 - u')=x1*x1+x1*u'+u'*u':=by
   refine H.cancel hd ?_
   have f1:y1+v'=l'*(x1 - u'):=by clear ht o1 ou e2 b1 b2; grobner
   have f2:y1 - v'=m'*(x1 - u'):=by clear ht o1 ou e2 a1 a3 f1; grobner
   have f3:(y1+v')*(y1 - v')=l'*(x1 - u')*(m'*(x1 - u')):=by rw [f1,f2]
   clear a1 a3 b1 b2 e2 f1 f2 ht
   grobner
  refine H.cancel hd ?_
  rw [e2] at ht
  clear a1 a3 b1 b2 e2 o1 ou
  grobner
 have hb:(B - B')+(C - C')*l=0:=by clear p1 p2 p3 p4 p5 p6 p7 q1 q2 q3 q4 q5 q6 q7 r1 r3 o1 o3 ht; grobner
 obtain ⟨eA,eB,eC⟩:=uniq H hb r1 r3 h.1 hK
 refine same H (x1:=x1) (x2:=x1) (x3:=x3) eA eB eC ?_ p5 q5 p4 q4
 intro hC
 rw [hC] at p1 p3 g1
 have w2:=twoRoots H (A:=A) (B:=B) (x:=x1) (y:=x3) (by clear eA eB eC r1 r3 p2 p3 p4 p5 p6 p7 q1 q2 q3 q4 q5 q6 q7 hb g1 g2; grobner) (by clear eA eB eC r1 r3 p1 p2 p4 p5 p6 p7 q1 q2 q3 q4 q5 q6 q7 hb g1 g2; grobner) n13
 exact n13 (by clear eA eB eC r1 r3 p1 p2 p3 p4 p5 p6 p7 q1 q2 q3 q4 q5 q6 q7 hb g2 ht; grobner)
theorem assoc (H:Fld n inv) {P Q R:Pt n} (hP:On P) (hQ:On Q) (hR:On R):Ec.add inv (Ec.add inv P Q) R=Ec.add inv P (Ec.add inv Q R):=by
 by_cases cPR:P=R
 ·subst cPR
  rw [comm H (On.add H hP hQ) hP,comm H hP hQ]
 by_cases cPR':R=neg P
 ·subst cPR'
  have e1:Ec.add inv (Ec.add inv P Q) (neg P)=Q:=by rw [comm H hP hQ]; exact back H hQ hP
  have e2:Ec.add inv P (Ec.add inv Q (neg P))=Q:=by
   have:=back H hQ (On.neg hP)
   rw [neg_neg] at this
   rw [comm H hP (On.add H hQ (On.neg hP))]; exact this
  rw [e1,e2]
 by_cases cPQ':Q=neg P
 ·subst cPQ'
  rw [add_neg,zero_add,comm H (On.neg hP) hR,comm H hP (On.add H hR (On.neg hP))]
  have:=back H hR (On.neg hP)
  rw [neg_neg] at this
  exact this.symm
 by_cases cQR':R=neg Q
 ·subst cQR'
  rw [add_neg,add_zero]
  exact back H hP hQ
 by_cases cS:Ec.add inv P Q=neg R
 ·rw [cS,neg_add]
  have e:P=neg (Ec.add inv Q R):=by
   have:=back H hP hQ
   rw [cS] at this
   rw [neg_sum H hQ hR,comm H (On.neg hQ) (On.neg hR),this]
  conv=>rhs; rw [e]
  rw [neg_add]
 by_cases cU:P=neg (Ec.add inv Q R)
 ·exact absurd (by
   conv=>lhs; rw [cU]
   rw [neg_sum H hQ hR,comm H (On.neg hQ) (On.neg hR)]
   have:=back H (On.neg hR) (On.neg hQ)
   rwa [neg_neg] at this) cS
 rcases P with _ | ⟨x1,y1⟩
 ·rw [zero_add,zero_add]
 rcases Q with _ | ⟨x2,y2⟩
 ·rw [zero_add]; rfl
 rcases R with _ | ⟨x3,y3⟩
 ·rw [add_zero,add_zero]
 have hno:∀ {a b c d:Fin n},some (a,b)≠neg (some (c,d))→¬ (c=a∧d+b=0):=by
  rintro a b c d h ⟨rfl,h2⟩
  refine h ?_
  show some (c,b)=some (c, -d)
  rw [show b = -d by clear h hP hQ hR cPR cPR' cPQ' cQR' cS cU; grobner]
 rcases add_cases H hP hQ with ⟨a1,a2,a3⟩ | ⟨u,v,l,c,hS,eS,_⟩
 ·exact absurd ⟨a1,a2⟩ (hno cPQ')
 rcases add_cases H hQ hR with ⟨a1,a2,a3⟩ | ⟨u',v',l',c',hU,eU,_⟩
 ·exact absurd ⟨a1,a2⟩ (hno cQR')
 rw [eS] at cS ⊢
 rw [eU] at cU ⊢
 have oS:On (some (u,v)):=by have:=On.add H hP hQ; rwa [eS] at this
 have oU:On (some (u',v')):=by have:=On.add H hQ hR; rwa [eU] at this
 rw [comm H hP oU]
 have nS:¬ (u=x3∧v+y3=0):=by
  rintro ⟨rfl,h⟩
  exact hno cS ⟨rfl,by clear hP hQ hR cPR cPR' cPQ' cQR' cS cU eS eU hS hU oS oU; grobner⟩
 have nU:=hno cU
 rcases add_cases H oS hR with ⟨a1,a2,_⟩ | ⟨s,t,m,d,k,eW,_⟩
 ·exact absurd ⟨a1,a2⟩ nS
 rcases add_cases H oU hP with ⟨a1,a2,_⟩ | ⟨s',t',m',d',k',eW',_⟩
 ·exact absurd ⟨a1,a2⟩ nU
 rw [eW,eW']
 have n13:x1≠x3:=off H hP hR (λe=>cPR (by rw [e.1,e.2])) (hno cPR')
 suffices hst:s=s'∧t=t' by rw [hst.1,hst.2]
 by_cases e12:(x1,y1)=(x2,y2)
 ·injection e12 with e1 e2
  subst e1 e2
  exact assoc2 H hS k hU k' n13 nS
 by_cases e23:(x2,y2)=(x3,y3)
 ·injection e23 with e1 e2
  subst e1 e2
  have nU':¬ (u'=x1∧v'+y1=0):=nU
  have h:=assoc2 H hU k' hS.swap k (Ne.symm n13) nU'
  exact ⟨h.1.symm,h.2.symm⟩
 have n12:x1≠x2:=off H hP hQ (λe=>e12 (by rw [e.1,e.2])) (hno cPQ')
 have n23:x2≠x3:=off H hQ hR (λe=>e23 (by rw [e.1,e.2])) (hno cQR')
 exact assoc1 H hS k hU k' n12 n23 n13 nS
end Ec
end
section
namespace Ec
variable {n:Nat} [NeZero n] {inv:Fin n→Fin n}
def nm (inv:Fin n→Fin n):Nat→Pt n→Pt n
 | 0,_=>none
 | k+1,P=>Ec.add inv (nm inv k P) P
theorem On.nm (H:Fld n inv) {P:Pt n} (hP:On P):∀ k,On (nm inv k P)
 | 0=>trivial
 | k+1=>On.add H (On.nm H hP k) hP
theorem nm_one (P:Pt n):nm inv 1 P=P:=zero_add P
theorem nm_none:∀ k,nm inv k (none:Pt n)=none
 | 0=>rfl
 | k+1=>by unfold nm; rw [nm_none k]; rfl
theorem nm_add (H:Fld n inv) {P:Pt n} (hP:On P) (a:Nat):∀ b,nm inv (a+b) P=Ec.add inv (nm inv a P) (nm inv b P)
 | 0=>(add_zero _).symm
 | b+1=>by
  show Ec.add inv (nm inv (a+b) P) P=Ec.add inv (nm inv a P) (Ec.add inv (nm inv b P) P)
  rw [nm_add H hP a b,assoc H (hP.nm H a) (hP.nm H b) hP]
theorem nm_mul (H:Fld n inv) {P:Pt n} (hP:On P) (b:Nat):∀ a,nm inv (a*b) P=nm inv a (nm inv b P)
 | 0=>by rw [Nat.zero_mul]; rfl
 | a+1=>by
  rw [Nat.add_mul,Nat.one_mul,nm_add H hP,nm_mul H hP b a]
  rfl
theorem add4 (H:Fld n inv) {P Q R S:Pt n} (hP:On P) (hQ:On Q) (hR:On R) (hS:On S):Ec.add inv (Ec.add inv P Q) (Ec.add inv R S)=Ec.add inv (Ec.add inv P R) (Ec.add inv Q S):=by
 rw [assoc H hP hQ (On.add H hR hS), ← assoc H hQ hR hS,comm H hQ hR,assoc H hR hQ hS, ← assoc H hP hR (On.add H hQ hS)]
theorem nm_sum (H:Fld n inv) {P Q:Pt n} (hP:On P) (hQ:On Q):∀ k,nm inv k (Ec.add inv P Q)=Ec.add inv (nm inv k P) (nm inv k Q)
 | 0=>rfl
 | k+1=>by
  show Ec.add inv (nm inv k (Ec.add inv P Q)) _=Ec.add inv (Ec.add inv _ P) (Ec.add inv _ Q)
  rw [nm_sum H hP hQ k]
  exact add4 H (hP.nm H k) (hQ.nm H k) hP hQ
theorem nm_comm (H:Fld n inv) {P:Pt n} (hP:On P) (a b:Nat):nm inv a (nm inv b P)=nm inv b (nm inv a P):=by
 rw [← nm_mul H hP, ← nm_mul H hP,Nat.mul_comm]
theorem twice_none (H:Fld n inv) {P:Pt n} (hP:On P) (h:Ec.add inv P P=none):P=none:=by
 rcases P with _ | ⟨x,y⟩
 ·rfl
 ·rcases add_cases H hP hP with ⟨_,h2,_⟩ | ⟨_,_,_,_,_,e,_⟩
  ·exact absurd (H.two _ h2) (H.noTwo _ _ hP)
  ·rw [e] at h; cases h
theorem pigeon:∀ (k m:Nat) (f:Nat→Nat),(∀ i,i<m→f i<k)→(∀ i j,i<m→j<m→f i=f j→i=j)→m≤k
 | 0,m,f,h,_=>by
  rcases m with _ | m
  ·exact Nat.le_refl _
  ·exact absurd (h 0 (Nat.succ_pos _)) (Nat.not_lt_zero _)
 | k+1,m,f,h,hi=>by
  rcases m with _ | m
  ·exact Nat.zero_le _
  refine Nat.succ_le_succ ?_
  by_cases hx:∃ i,i<m+1∧f i=k
  ·obtain ⟨i0,h0,e0⟩:=hx
   refine pigeon k m (λi=>if i=i0 then f m else f i) (λi hlt=>?_) (λi j hlt hlt' he=>?_)
   ·by_cases e:i=i0
    ·rw [if_pos e]
     subst e
     have h1:=h m (Nat.lt_succ_self _)
     have h2:f m≠k:=λe=>by have:=hi m i (Nat.lt_succ_self _) h0 (by rw [e,e0]); omega
     omega
    ·rw [if_neg e]
     have h1:=h i (by omega)
     have h2:f i≠k:=λe'=>e (hi i i0 (by omega) h0 (by rw [e',e0]))
     omega
   ·by_cases e:i=i0
    ·rw [if_pos e] at he
     by_cases e':j=i0
     ·rw [e,e']
     ·rw [if_neg e'] at he
      have:=hi m j (by omega) (by omega) he
      omega
    ·rw [if_neg e] at he
     by_cases e':j=i0
     ·rw [if_pos e'] at he
      have:=hi i m (by omega) (by omega) he
      omega
     ·rw [if_neg e'] at he
      exact hi i j (by omega) (by omega) he
  ·refine pigeon k m f (λi hlt=>?_) (λi j hlt hlt' he=>hi i j (by omega) (by omega) he)
   have h1:=h i (by omega)
   have h2:f i≠k:=λe=>hx ⟨i,by omega,e⟩
   omega
def code:Pt n→Nat
 | none=>2*n
 | some (x,y)=>2*x.val+y.val%2
omit [NeZero n] in
theorem code_lt (P:Pt n):code P<2*n+1:=by
 rcases P with _ | ⟨x,y⟩
 ·exact Nat.lt_succ_self _
 ·have:=x.isLt
  show 2*x.val+y.val%2<_
  omega
theorem val_of_sum {x y:Fin n} (h:x+y=0) (hx:x≠0):x.val+y.val=n:=by
 have h1:(x.val+y.val)%n=0:=by
  have:=congrArg Fin.val h
  rw [Fin.val_add] at this
  exact this
 have h2:=x.isLt
 have h3:=y.isLt
 have h4:x.val≠0:=λe=>hx (Fin.ext e)
 have h5:=Nat.div_add_mod (x.val+y.val) n
 rw [h1] at h5
 have h6:(x.val+y.val) / n<2:=Nat.div_lt_of_lt_mul (by omega)
 have h7:(x.val+y.val) / n≠0:=λe=>by rw [e] at h5; omega
 have h8:(x.val+y.val) / n=1:=by
  clear h5 h1
  generalize (x.val+y.val) / n=q at *
  omega
 rw [h8] at h5
 omega
theorem code_inj (H:Fld n inv) (ho:n%2=1) {P Q:Pt n} (hP:On P) (hQ:On Q) (h:code P=code Q):P=Q:=by
 rcases P with _ | ⟨x,y⟩ <;> rcases Q with _ | ⟨u,v⟩
 ·rfl
 ·have:=u.isLt
  have h':2*n=2*u.val+v.val%2:=h
  omega
 ·have:=x.isLt
  have h':2*x.val+y.val%2=2*n:=h
  omega
 ·have h':2*x.val+y.val%2=2*u.val+v.val%2:=h
  have e:x=u:=Fin.ext (by omega)
  subst e
  by_cases e:y=v
  ·rw [e]
  by_cases e':y+v=0
  ·have h1:=val_of_sum e' (H.noTwo _ _ hP)
   omega
  ·exact absurd rfl (off H hP hQ (λk=>e k.2) (λk=>e' k.2))
theorem small_order (H:Fld n inv) {G:Pt n} (hG:On G) (hne:G≠none) {N:Nat} (hN:nm inv N G=none) (hp:∀ d,d ∣ N→d=1∨d=N) {d:Nat} (hd:0<d) (hlt:d<N):nm inv d G≠none:=by
 intro h
 have hmod:∀ a b,nm inv a G=none→nm inv b G=none→nm inv (a%b) G=none:=λa b ha hb=>by
  have h1:=Nat.div_add_mod a b
  have h2:nm inv (b*(a / b)+a%b) G=none:=by rw [h1]; exact ha
  rw [nm_add H hG,Nat.mul_comm,nm_mul H hG,hb,nm_none,zero_add] at h2
  exact h2
 have hg:nm inv (Nat.gcd d N) G=none:=by
  have:∀ (k a b:Nat),b≤k→nm inv a G=none→nm inv b G=none→nm inv (Nat.gcd b a) G=none:=by
   intro k
   induction k with
   | zero =>
    intro a b hb ha _
    obtain rfl:b=0:=by omega
    rw [Nat.gcd_zero_left]; exact ha
   | succ k ih =>
    intro a b hb ha hb'
    rcases Nat.eq_zero_or_pos b with rfl | hpos
    ·rw [Nat.gcd_zero_left]; exact ha
    ·rw [Nat.gcd_rec]
     exact ih b (a%b) (by have:=Nat.mod_lt a hpos; omega) hb' (hmod a b ha hb')
  exact this d N d (Nat.le_refl _) hN h
 rcases hp _ (Nat.gcd_dvd_right d N) with e | e
 ·rw [e,nm_one] at hg
  exact hne hg
 ·have:=Nat.le_of_dvd hd (Nat.gcd_dvd_left d N)
  omega
theorem all_order (H:Fld n inv) (ho:n%2=1) {G:Pt n} (hG:On G) (hne:G≠none) {N:Nat} (hN:nm inv N G=none) (hp:∀ d,d ∣ N→d=1∨d=N) (hbig:2*n+1<3*N)
  {Q:Pt n} (hQ:On Q):nm inv N Q=none:=by
 have hN0:0<N:=by omega
 let T:Nat→Pt n:=λt=>Ec.add inv (nm inv (t%N) G) (nm inv (t / N) Q)
 have hT:∀ t,On (T t):=λt=>On.add H (hG.nm H _) (hQ.nm H _)
 have key:∀ a b e,a<N→b<N→(nm inv a G=Ec.add inv (nm inv b G) (nm inv e Q))→nm inv e (nm inv N Q)=none:=λa b e _ _ h=>by
  have h1:=congrArg (nm inv N) h
  rw [nm_sum H (hG.nm H _) (hQ.nm H _),nm_comm H hG,hN,nm_none,nm_comm H hG N b,hN,nm_none,zero_add,nm_comm H hQ] at h1
  exact h1.symm
 have one2:∀ e,0<e→e<3→nm inv e (nm inv N Q)=none→nm inv N Q=none:=λe h0 h3 h=>by
  rcases (show e=1∨e=2 by omega) with rfl | rfl
  ·rw [nm_one] at h; exact h
  ·have h':Ec.add inv (nm inv 1 (nm inv N Q)) (nm inv N Q)=none:=h
   rw [nm_one] at h'
   exact twice_none H (hQ.nm H _) h'
 have split:∀ t s,t<3*N→s<3*N→t / N<s / N→T t=T s→nm inv N Q=none:=λt s ht hs hlt he=>by
  have d3:s / N<3:=Nat.div_lt_of_lt_mul (by rw [Nat.mul_comm]; exact hs)
  obtain ⟨e,he0⟩:∃ e,s / N=t / N+e:=⟨s / N - t / N,by omega⟩
  have h1:Ec.add inv (nm inv (t%N) G) (nm inv (t / N) Q)=Ec.add inv (Ec.add inv (nm inv (s%N) G) (nm inv e Q)) (nm inv (t / N) Q):=by
   have h2:T s=Ec.add inv (nm inv (s%N) G) (nm inv (e+t / N) Q):=by
    show Ec.add inv _ (nm inv (s / N) Q)=_
    rw [he0,Nat.add_comm]
   rw [nm_add H hQ, ← assoc H (hG.nm H _) (hQ.nm H _) (hQ.nm H _)] at h2
   exact he.trans h2
  have h2:=unadd H (hG.nm H _) (On.add H (hG.nm H _) (hQ.nm H _)) (hQ.nm H _) h1
  have e3:e<3:=Nat.lt_of_le_of_lt (Nat.le_add_left e (t / N)) (he0 ▸ d3)
  have e0:0<e:=by
   generalize t / N=q at *
   generalize s / N=q' at *
   omega
  exact one2 e e0 e3 (key _ _ e (Nat.mod_lt _ hN0) (Nat.mod_lt _ hN0) h2)
 have flat:∀ t s,t<s→s / N=t / N→T t=T s→False:=λt s hts hq he=>by
  have h1:Ec.add inv (nm inv (t%N) G) (nm inv (t / N) Q)=Ec.add inv (nm inv (s%N) G) (nm inv (t / N) Q):=by
   have h2:T s=Ec.add inv (nm inv (s%N) G) (nm inv (t / N) Q):=by
    show Ec.add inv _ (nm inv (s / N) Q)=_
    rw [hq]
   exact he.trans h2
  have h2:=unadd H (hG.nm H _) (hG.nm H _) (hQ.nm H _) h1
  have e1:=Nat.div_add_mod t N
  have e2:=Nat.div_add_mod s N
  rw [hq] at e2
  have l1:=Nat.mod_lt t hN0
  have l2:=Nat.mod_lt s hN0
  obtain ⟨d,hd⟩:∃ d,s%N=d+t%N:=⟨s%N - t%N,by omega⟩
  rw [hd,nm_add H hG] at h2
  have h3:Ec.add inv none (nm inv (t%N) G)=Ec.add inv (nm inv d G) (nm inv (t%N) G):=by rw [zero_add]; exact h2
  have h4:=unadd H (P:=none) (Q:=nm inv d G) trivial (hG.nm H d) (hG.nm H (t%N)) h3
  exact small_order H hG hne hN hp (d:=d) (by omega) (by omega) h4.symm
 by_cases hex:∃ t s,t<3*N∧s<3*N∧t<s∧T t=T s
 ·obtain ⟨t,s,ht,hs,hts,he⟩:=hex
  rcases Nat.lt_or_ge (t / N) (s / N) with hlt | hge
  ·exact split t s ht hs hlt he
  ·have:t / N≤s / N:=Nat.div_le_div_right (Nat.le_of_lt hts)
   exact (flat t s hts (by omega) he).elim
 ·have hm:=pigeon (2*n+1) (3*N) (λt=>code (T t)) (λt _=>code_lt _) (λi j hi hj he=>by
   have he':=code_inj H ho (hT i) (hT j) he
   rcases Nat.lt_trichotomy i j with h | h | h
   ·exact absurd ⟨i,j,hi,hj,h,he'⟩ hex
   ·exact h
   ·exact absurd ⟨j,i,hj,hi,h,he'.symm⟩ hex)
  omega
theorem nm_mod (H:Fld n inv) {P:Pt n} (hP:On P) {N:Nat} (hN:nm inv N P=none) (k:Nat):nm inv (k%N) P=nm inv k P:=by
 conv=>rhs; rw [← Nat.div_add_mod k N]
 rw [nm_add H hP,Nat.mul_comm,nm_mul H hP,hN,nm_none,zero_add]
end Ec
end
section
section
open Go.RowKit Go.Lib
namespace M64
theorem maskN (a:Nat) (ha:a<18446744073709551616):bits .and .u64 (a:Int) 4294967295=((a%4294967296:Nat):Int):=by
 have h:=bits_and_u64_nat a 4294967295 ha (by omega)
 have e:a &&& 4294967295=a%4294967296:=Nat.and_two_pow_sub_one_eq_mod a 32
 rw [e] at h
 exact h
theorem divN (a:Nat):(a:Int) / 4294967296=((a / 4294967296:Nat):Int):=by omega
theorem mulN (a b:Nat):(a:Int)*(b:Int)=((a*b:Nat):Int):=(Int.natCast_mul a b).symm
theorem addN (a b:Nat):(a:Int)+(b:Int)=((a+b:Nat):Int):=(Int.natCast_add a b).symm
theorem wrapN (a:Nat) (ha:a<18446744073709551616):IntKind.u64.wrap (a:Int)=(a:Int):=by rw [IntKind.wrap_u64]; omega
theorem wrapM (a:Nat):IntKind.u64.wrap (a:Int)=((a%18446744073709551616:Nat):Int):=by rw [IntKind.wrap_u64]; omega
end M64
set_option maxHeartbeats 1000000 in
theorem mul64_any (w:World) (x y:Nat) (hx:x<18446744073709551616) (hy:y<18446744073709551616) :
  Calls Tryz.prog 105 #[.int .u64 x,.int .u64 y] w λe w'=>e=.returned (.tuple #[.int .u64 ((x*y / 18446744073709551616:Nat):Int),.int .u64 ((x*y%18446744073709551616:Nat):Int)])∧w'=w:=by
 obtain ⟨bd,bt,bw,hhi⟩:=Lib.mul64_hi x y hx hy
 have ba:=Lib.half_mul_le (a:=x / 4294967296) (b:=y / 4294967296) (by omega) (by omega)
 have bb:=Lib.half_mul_le (a:=x / 4294967296) (b:=y%4294967296) (by omega) (by omega)
 have bc:=Lib.half_mul_le (a:=x%4294967296) (b:=y / 4294967296) (by omega) (by omega)
 have ba':x / 4294967296*(y / 4294967296)<18446744073709551616:=by omega
 have bb':x / 4294967296*(y%4294967296)<18446744073709551616:=by omega
 have bc':x%4294967296*(y / 4294967296)<18446744073709551616:=by omega
 have bh1:x / 4294967296*(y / 4294967296)+(x / 4294967296*(y%4294967296)+x%4294967296*(y%4294967296) / 4294967296) / 4294967296<18446744073709551616:=by omega
 have bh:x / 4294967296*(y / 4294967296)+(x / 4294967296*(y%4294967296)+x%4294967296*(y%4294967296) / 4294967296) / 4294967296+((x / 4294967296*(y%4294967296)+x%4294967296*(y%4294967296) / 4294967296)%4294967296+x%4294967296*(y / 4294967296)) / 4294967296<18446744073709551616:=by omega
 go_enter Tryz.func105,Tryz.ntmps105
 go_wp2
 simp only [M64.maskN x hx,M64.maskN y hy,M64.divN,M64.mulN,M64.addN,M64.wrapN _ bd,M64.wrapN _ bb',M64.wrapN _ bt,M64.maskN _ bt,M64.wrapN _ bc',M64.wrapN _ bw,M64.wrapN _ ba',M64.wrapN _ bh1,M64.wrapN _ bh,M64.wrapM (x*y)]
 rw [hhi]
 exact bodyPost_ret (v:=.tuple #[_,_]) (by simp [results,Tryz.results105,go_sem]) rfl ⟨rfl,rfl⟩
theorem mul64_at (w:World) (x y hi lo:Nat) (hx:x<18446744073709551616) (hy:y<18446744073709551616) (hlo:lo<18446744073709551616) (he:lo+18446744073709551616*hi=x*y) :
  Calls Tryz.prog 105 #[.int .u64 x,.int .u64 y] w λe w'=>e=.returned (.tuple #[.int .u64 (hi:Int),.int .u64 (lo:Int)])∧w'=w:=by
 have e1:x*y / 18446744073709551616=hi:=by omega
 have e2:x*y%18446744073709551616=lo:=by omega
 have h:=mul64_any w x y hx hy
 rw [e1,e2] at h
 exact h
theorem mul_ex (x y:Nat) (hx:x<18446744073709551616) (hy:y<18446744073709551616):∃ hi lo:Nat,lo<18446744073709551616∧hi+2≤18446744073709551616∧lo+18446744073709551616*hi=x*y:=by
 have h:x*y≤18446744073709551615*18446744073709551615:=Nat.mul_le_mul (by omega) (by omega)
 exact ⟨x*y / 18446744073709551616,x*y%18446744073709551616,by omega,by omega,by omega⟩
set_option maxHeartbeats 1000000 in
theorem times_at {v:Value} (w:World) (x m s t:Nat) (h1:fv x=v) (hx:x<(2^256)) (hm:m<18446744073709551616) (hs:s<(2^256)) (he:s+(2^256)*t=x*m) :
  Calls Tryz.prog 104 #[v,.int .u64 (m:Int)] w λe w'=>e=.returned (.tuple #[fv s,.int .u64 (t:Int)])∧Below w.heap.size w w':=by
 subst h1
 obtain ⟨x0,x1,x2,x3,a0,a1,a2,a3,ex,fx⟩:=words_of x hx
 obtain ⟨p0,q0,b0,c0,e0⟩:=mul_ex x0 m a0 hm
 obtain ⟨p1,q1,b1,c1,e1⟩:=mul_ex x1 m a1 hm
 obtain ⟨p2,q2,b2,c2,e2⟩:=mul_ex x2 m a2 hm
 obtain ⟨p3,q3,b3,c3,e3⟩:=mul_ex x3 m a3 hm
 have em:x*m=x0*m+18446744073709551616*(x1*m)+340282366920938463463374607431768211456*(x2*m)+6277101735386680763835789423207666416102355444464034512896*(x3*m):=by rw [ex,row_mul]
 have fl:=fv_mk q0 q1 q2 q3 b0 b1 b2 b3
 have fh:=fv_mk 0 p0 p1 p2 (by omega) (by omega) (by omega) (by omega)
 obtain ⟨L,hL⟩:∃ L,L=q0+18446744073709551616*q1+340282366920938463463374607431768211456*q2+6277101735386680763835789423207666416102355444464034512896*q3:=⟨_,rfl⟩
 obtain ⟨H,hH⟩:∃ H,H=0+18446744073709551616*p0+340282366920938463463374607431768211456*p1+6277101735386680763835789423207666416102355444464034512896*p2:=⟨_,rfl⟩
 obtain ⟨k,hk⟩:∃ k,L+H=s+(2^256)*k∧t=p3+k:=by
  refine ⟨t - p3,?_,?_⟩ <;> omega
 have hLt:L<(2^256):=by omega
 have hHt:H<(2^256):=by omega
 have hp:=λw=>plus_at w L H s k rfl rfl hLt hHt hs hk.1.symm
 rw [← hL] at fl
 rw [← hH] at fh
 have m0:=λw=>mul64_at w x0 m p0 q0 a0 hm b0 e0
 have m1:=λw=>mul64_at w x1 m p1 q1 a1 hm b1 e1
 have m2:=λw=>mul64_at w x2 m p2 q2 a2 hm b2 e2
 have m3:=λw=>mul64_at w x3 m p3 q3 a3 hm b3 e3
 have hadd:(p3:Int)+(k:Int)=(t:Int):=by omega
 have ht:t<18446744073709551616:=by omega
 have hp:=λw=>plus_at w L H s k fl.symm fh.symm hLt hHt hs hk.1.symm
 rw [fx]
 clear ex fx a0 a1 a2 a3 b0 b1 b2 b3 c0 c1 c2 c3 e0 e1 e2 e3 em fl fh hL hH hk hLt hHt he hs hx hm
 go_enter Tryz.func104,Tryz.ntmps104
 go_wp2_with fail
 refine (m0 _).mono ?_
 rintro e w1 ⟨rfl,rfl⟩
 go_wp2_with fail
 refine (m1 _).mono ?_
 rintro e w1 ⟨rfl,rfl⟩
 go_wp2_with fail
 refine (m2 _).mono ?_
 rintro e w1 ⟨rfl,rfl⟩
 go_wp2_with fail
 refine (m3 _).mono ?_
 rintro e w1 ⟨rfl,rfl⟩
 go_wp2_with fail
 refine (hp _).mono ?_
 rintro e w1 ⟨rfl,hb⟩
 have hR:Blk w1 (w.heap.size+1) 151 _:=Gr.blk hb (blk_new2 w _ _ _)
 have hB:Below w.heap.size w w1:=Below.gr (below_alloc2 w _ _) hb
 go_wp2_with (first | ((with_reducible refine here_store ?_); refine wpList_store_blk rfl _ _ _ rfl (w.heap.size+1) (fcs (s)) rfl rfl _ _ (hR) (by kernel_rfl) (by rfl) (fcs_one _) ?_; intro w2 hL2 hB2 hK2) | ((with_reducible refine here_load (d:=some 56) ?_); refine wpList_load_fv rfl _ _ rfl (w.heap.size+1) rfl (s) _ _ _ (hL2) (fv_fcs s) Tryz.underlying151 rfl (by kernel_rfl) ?_) | ((with_reducible refine here_store ?_); refine wpList_store_blk rfl _ _ _ rfl (w.heap.size+1) (fcs (s)) rfl rfl _ _ (hL2) (by kernel_rfl) (by rfl) (fcs_one _) ?_; intro w3 hL3 hB3 hK3))
 exact bodyPost_ret (res_cell_tmp rfl _ _ (w.heap.size+1) _ _ _ _ rfl hL3 rfl Tryz.underlying151 rfl (by kernel_rfl)) rfl ⟨rfl,hB.trans ((hB2 _ (by omega)).trans (hB3 _ (by omega)))⟩
end
end
section
section
open Go.RowKit Go.Lib
theorem fcs_words {n:Nat} {a b c d:Int} (h:fv n=.agg #[.int .u64 a,.int .u64 b,.int .u64 c,.int .u64 d]):fcs n=#[.int .u64 a,.int .u64 b,.int .u64 c,.int .u64 d]:=by
 rw [fv_fcs] at h
 injection h
set_option maxHeartbeats 1000000 in
set_option maxRecDepth 100000 in
theorem row_at {v1 v3:Value} (w:World) (x m c lo hi:Nat) (h1:fv x=v1) (h3:fv c=v3) (hx:x<(2^256)) (hm:m<18446744073709551616) (hc:c<(2^256)) (hlo:lo<18446744073709551616) (he:lo+18446744073709551616*hi=x*m+c) :
  Calls Tryz.prog 121 #[v1,.int .u64 (m:Int),v3] w λe w'=>e=.returned (.tuple #[.int .u64 (lo:Int),fv hi])∧Below w.heap.size w w':=by
 subst h1 h3
 obtain ⟨x0,x1,x2,x3,fx⟩:=words_fv x hx
 obtain ⟨c0,c1,c2,c3,fc⟩:=words_fv c hc
 obtain ⟨s,t,hs,hst,ht⟩:∃ s t:Nat,s<(2^256)∧s+(2^256)*t=x*m∧t+1<18446744073709551616:=by
  have h:x*m≤115792089237316195423570985008687907853269984665640564039457584007913129639935*18446744073709551615:=Nat.mul_le_mul (by omega) (by omega)
  exact ⟨x*m%(2^256),x*m / (2^256),by omega,by omega,by omega⟩
 obtain ⟨u,k,hu,hk,huk⟩:∃ u k:Nat,u<(2^256)∧k≤1∧u+(2^256)*k=s+c:=⟨(s+c)%(2^256),(s+c) / (2^256),by omega,by omega,by omega⟩
 obtain ⟨u0,u1,u2,u3,d0,d1,d2,d3,eu,fu⟩:=words_of u hu
 obtain ⟨t1,ht1⟩:∃ t1,t1=t+k:=⟨_,rfl⟩
 obtain rfl:u0=lo:=by omega
 have hhi:u1+18446744073709551616*u2+340282366920938463463374607431768211456*u3+6277101735386680763835789423207666416102355444464034512896*t1=hi:=by omega
 have fh:=fv_mk u1 u2 u3 t1 d1 d2 d3 (by omega)
 rw [hhi] at fh
 have ct:=λw=>times_at (v:=fv x) w x m s t rfl hx hm hs hst
 have cp:=λw=>plus_at (v1:=fv s) (v2:=fv c) w s c u k rfl rfl hs hc hu huk
 have hadd:(t:Int)+(k:Int)=(t1:Int):=by omega
 have ht1':t1<18446744073709551616:=by omega
 have FX:=Lib.hid fx
 have FC:=Lib.hid fc
 have FU:=Lib.hid fu
 have FH:=Lib.hid fh
 have ct':∀ w,Calls Tryz.prog 104 #[.agg #[.int .u64 x0,.int .u64 x1,.int .u64 x2,.int .u64 x3],.int .u64 (m:Int)] w λe w'=>e=.returned (.tuple #[fv s,.int .u64 (t:Int)])∧Below w.heap.size w w':=by
  intro w; rw [← fx]; exact ct w
 rw [fx,fc]
 clear fx fc fu fh hx hc hm hs hst ht hu hk huk d0 d1 d2 d3 eu ht1 hhi he ct hlo
 go_enter Tryz.func121,Tryz.ntmps121
 go_wp2_with fail
 refine (ct' _).mono ?_
 rintro e w1 ⟨rfl,hb⟩
 have BC:Blk w1 (w.heap.size+1) 151 _:=Gr.blk hb (Blk.alloc (blk_new2 w _ _ _) _)
 have BR:Blk w1 (w.heap.size+2) 151 _:=Gr.blk hb (blk_new3 w _ _ _ _)
 have hB:Below w.heap.size w w1:=Below.gr (below_alloc3 w _ _ _) hb
 have hsz:w.heap.size+3≤w1.heap.size:=by have:=hb.size; simp at this; omega
 clear hb ct'
 go_wp2_with (first | ((with_reducible refine here_store ?_); refine wpList_store_blk rfl _ _ _ rfl (w1.heap.size) (fcs (s)) rfl rfl _ _ (Blk.new w1 _ _) (by kernel_rfl) (by rfl) (fcs_one _) ?_; intro w2 hL2 hB2 hK2; have BR':=hK2 _ (by omega) _ _ (BR.alloc _); have BC':=hK2 _ (by omega) _ _ (BC.alloc _)) | ((with_reducible refine here_load (d:=some 18) ?_); refine wpList_load_fv rfl _ _ rfl (w1.heap.size) rfl (s) _ _ _ (hL2) (fv_fcs s) Tryz.underlying151 rfl (by kernel_rfl) ?_) | ((with_reducible refine here_load (d:=some 19) ?_); refine wpList_load_fv rfl _ _ rfl (w.heap.size+1) rfl (c) _ _ _ (BC') (FC.out) Tryz.underlying151 rfl (by kernel_rfl) ?_))
 have BR2:=BR'
 have BC2:=BC'
 refine (cp _).mono ?_
 rintro e w3 ⟨rfl,hb⟩
 have BR3:Blk w3 (w.heap.size+2) 151 _:=Gr.blk hb BR2
 have BT3:Blk w3 w1.heap.size 151 _:=Gr.blk hb hL2
 have hB3:Below w.heap.size w w3:=Below.gr ((hB.alloc (by omega) _).trans (hB2 _ (by omega))) hb
 clear hb cp
 go_wp2_with (first | ((with_reducible refine here_store ?_); refine wpList_store_blk rfl _ _ _ rfl (w1.heap.size) (fcs (u)) rfl rfl _ _ (BT3) (by kernel_rfl) (by rfl) (fcs_one _) ?_; intro w5 hL5 hB5 hK5; have BR5:=hK5 _ (by omega) _ _ BR3))
 have BT5:Blk w5 w1.heap.size 151 _:=hL5.eq_ (fcs_words FU.out)
 have lT:=BT5.lt
 have q0:w5.cell? ⟨w1.heap.size,0,none⟩=some (.int .u64 (u0:Int)):=BT5.cell 0
 have q1:w5.cell? ⟨w1.heap.size,1,none⟩=some (.int .u64 (u1:Int)):=BT5.cell 1
 have q2:w5.cell? ⟨w1.heap.size,2,none⟩=some (.int .u64 (u2:Int)):=BT5.cell 2
 have q3:w5.cell? ⟨w1.heap.size,3,none⟩=some (.int .u64 (u3:Int)):=BT5.cell 3
 have hw1:=M64.wrapN t1 ht1'
 refine wp_region_G (λj=>j == 13) (by kernel_rfl) ?_
 try simp only [Act.put]
 refine tk 0 rfl ?_
 try simp only [Act.put,aA,aZ,aS]
 refine tkw 1 rfl (YieldsG.pure (v:=.int .u64 (u0:Int)) (by rfl) (λw9 h9=>by have hz:=(Below.cell (p:=⟨w1.heap.size,0,none⟩) h9 lT).trans q0; go_simp; first | done | simp [hz])) ?_
 try simp only [Act.put,aA,aZ,aS]
 refine tk 2 rfl ?_
 try simp only [Act.put,aA,aZ,aS]
 refine tkw 3 rfl (YieldsG.pure (v:=.int .u64 (u1:Int)) (by rfl) (λw9 h9=>by have hz:=(Below.cell (p:=⟨w1.heap.size,1,none⟩) h9 lT).trans q1; go_simp; first | done | simp [hz])) ?_
 try simp only [Act.put,aA,aZ,aS]
 refine tk 4 rfl ?_
 try simp only [Act.put,aA,aZ,aS]
 refine tkw 5 rfl (YieldsG.pure (v:=.int .u64 (u2:Int)) (by rfl) (λw9 h9=>by have hz:=(Below.cell (p:=⟨w1.heap.size,2,none⟩) h9 lT).trans q2; go_simp; first | done | simp [hz])) ?_
 try simp only [Act.put,aA,aZ,aS]
 refine tk 6 rfl ?_
 try simp only [Act.put,aA,aZ,aS]
 refine tkw 7 rfl (YieldsG.pure (v:=.int .u64 (u3:Int)) (by rfl) (λw9 h9=>by have hz:=(Below.cell (p:=⟨w1.heap.size,3,none⟩) h9 lT).trans q3; go_simp; first | done | simp [hz])) ?_
 try simp only [Act.put,aA,aZ,aS]
 refine tk 8 rfl ?_
 try simp only [Act.put,aA,aZ,aS]
 refine tk 9 rfl ?_
 try simp only [Act.put,aA,aZ,aS]
 refine tkw 10 rfl (YieldsG.pure (v:=.int .u64 (t1:Int)) (by rfl) (λw9 h9=>by go_simp; first | done | simp [hw1])) ?_
 try simp only [Act.put,aA,aZ,aS]
 refine tk 11 rfl ?_
 try simp only [Act.put,aA,aZ,aS]
 refine tk 12 rfl ?_
 try simp only [Act.put,aA,aZ,aS]
 refine wpAnyG_store 13 rfl (by kernel_rfl) (by rfl) _ _ _ rfl (w.heap.size+2) (#[.int .u64 u1,.int .u64 u2,.int .u64 u3,.int .u64 t1]) rfl rfl _ _ (BR5) (by kernel_rfl) (by rfl) (by simp [Value.oneCell']) rfl (λw6 h6 w7 hB7 hL7=>?_)
 try simp only [Act.put]
 refine wpAnyG_done (by kernel_rfl) (λw8 h8=>?_)
 have hfin:=Gr.blk h8 hL7
 have hb9:=(hB3.trans (hB5 _ (by omega))).trans ((Below.mono h6 (by have:=hB3.size; have:=(hB5 0 (by omega)).size; omega)).trans ((hB7 _ (by omega)).trans (Below.mono h8 (by have:=hL7.lt; omega))))
 go_wp2
 exact bodyPost_ret (res_tmp_cell rfl _ _ (w.heap.size+2) _ _ _ _ rfl hfin rfl Tryz.underlying151 rfl (by kernel_rfl)) rfl ⟨by rw [FH.out]; rfl,hb9⟩
end
end
section
section
open Go.RowKit Go.Lib
def twice (w:World) (g h:Nat) (a b c d p q r s:Value):World:=((((((((w.setCell ⟨g,0,none⟩ a).setCell ⟨g,1,none⟩ b).setCell ⟨g,2,none⟩ c).setCell ⟨g,3,none⟩ d).setCell ⟨h,0,none⟩ p).setCell ⟨h,1,none⟩ q).setCell ⟨h,2,none⟩ r).setCell ⟨h,3,none⟩ s).drew
theorem two_far {w:World} {g h:Nat} {t t':TypeId} {a b c d p q r s:Value} (k:Blk w g t #[a,b,c,d]) (_:Blk w h t' #[p,q,r,s]) (n:g≠h):Blk (twice w g h a b c d p q r s) g t #[a,b,c,d] :=
 ((((((((k.set_ 0 a).set_ 1 b).set_ 2 c).set_ 3 d).far n p).far n q).far n r).far n s).drew
theorem two_near {w:World} {g h:Nat} {t t':TypeId} {a b c d p q r s:Value} (_:Blk w g t #[a,b,c,d]) (k:Blk w h t' #[p,q,r,s]) (n:g≠h):Blk (twice w g h a b c d p q r s) h t' #[p,q,r,s] :=
 ((((((((k.far (Ne.symm n) a).far (Ne.symm n) b).far (Ne.symm n) c).far (Ne.symm n) d).set_ 0 p).set_ 1 q).set_ 2 r).set_ 3 s).drew
theorem two_below {B:Nat} {v w:World} {g h:Nat} {a b c d p q r s:Value} (k:Below B v w) (hg:B≤g) (hh:B≤h):Below B v (twice w g h a b c d p q r s) :=
 ((((((((k.setCell hg a).setCell hg b).setCell hg c).setCell hg d).setCell hh p).setCell hh q).setCell hh r).setCell hh s).drew
theorem row_ex (x m c:Nat) (hx:x<(2^256)) (hm:m<18446744073709551616) (hc:c<(2^256)):∃ lo hi:Nat,lo<18446744073709551616∧hi<(2^256)∧lo+18446744073709551616*hi=x*m+c:=by
 have h:x*m≤115792089237316195423570985008687907853269984665640564039457584007913129639935*18446744073709551615:=Nat.mul_le_mul (by omega) (by omega)
 exact ⟨(x*m+c)%18446744073709551616,(x*m+c) / 18446744073709551616,by omega,by omega,by omega⟩
set_option maxHeartbeats 2000000 in
set_option maxRecDepth 100000 in
theorem product_at {v1 v2:Value} (w:World) (x y lo hi:Nat) (h1:fv x=v1) (h2:fv y=v2) (hx:x<(2^256)) (hy:y<(2^256)) (hlo:lo<(2^256)) (he:lo+(2^256)*hi=x*y) :
  Calls Tryz.prog 103 #[v1,v2] w λe w'=>e=.returned (.tuple #[fv lo,fv hi])∧Below w.heap.size w w':=by
 subst h1 h2
 obtain ⟨x0,x1,x2,x3,fx⟩:=words_fv x hx
 obtain ⟨y0,y1,y2,y3,b0,b1,b2,b3,ey,fy⟩:=words_of y hy
 obtain ⟨l0,g1,m0,n1,e0⟩:=row_ex x y0 0 hx b0 (by omega)
 obtain ⟨l1,g2,m1,n2,e1⟩:=row_ex x y1 g1 hx b1 n1
 obtain ⟨l2,g3,m2,n3,e2⟩:=row_ex x y2 g2 hx b2 n2
 obtain ⟨l3,g4,m3,n4,e3⟩:=row_ex x y3 g3 hx b3 n3
 have em:x*y=x*y0+18446744073709551616*(x*y1)+340282366920938463463374607431768211456*(x*y2)+6277101735386680763835789423207666416102355444464034512896*(x*y3):=by rw [ey,col_mul]
 have hL:l0+18446744073709551616*l1+340282366920938463463374607431768211456*l2+6277101735386680763835789423207666416102355444464034512896*l3=lo:=by omega
 obtain rfl:g4=hi:=by omega
 have fl:=fv_mk l0 l1 l2 l3 m0 m1 m2 m3
 rw [hL] at fl
 obtain ⟨z0,z1,z2,z3,fg⟩:=words_fv g4 n4
 have FG:=Lib.hid fg
 clear fg
 have FX:=Lib.hid fx
 have FL:=Lib.hid fl
 have r0:=λw=>row_at w x y0 0 l0 g1 fx rfl hx b0 (by omega) m0 e0
 have r1:=λw=>row_at (v1:=fv x) (v3:=fv g1) w x y1 g1 l1 g2 rfl rfl hx b1 n1 m1 e1
 have r2:=λw=>row_at (v1:=fv x) (v3:=fv g2) w x y2 g2 l2 g3 rfl rfl hx b2 n2 m2 e2
 have r3:=λw=>row_at (v1:=fv x) (v3:=fv g3) w x y3 g3 l3 g4 rfl rfl hx b3 n3 m3 e3
 rw [fv_0] at r0
 rw [fx,fy]
 clear fx fy fl hx hy hlo he b0 b1 b2 b3 ey m0 m1 m2 m3 n1 n2 n3 n4 e0 e1 e2 e3 em hL
 go_enter Tryz.func103,Tryz.ntmps103
 go_wp2_with fail
 refine (r0 _).mono ?_
 rintro e w1 ⟨rfl,hb⟩
 have BX:Blk w1 w.heap.size 151 _:=Gr.blk hb (Blk.alloc (Blk.alloc (Blk.alloc (Blk.new w _ _) _) _) _)
 have BY:Blk w1 (w.heap.size+1) 151 _:=Gr.blk hb (Blk.alloc (Blk.alloc (blk_new2 w _ _ _) _) _)
 have BL:Blk w1 (w.heap.size+2) 151 #[.int .u64 0,.int .u64 0,.int .u64 0,.int .u64 0]:=Gr.blk hb (Blk.alloc (blk_new3 w _ _ _ _) _)
 have BG:Blk w1 (w.heap.size+3) 151 _:=Gr.blk hb (blk_new4 w _ _ _ _ _)
 have hB:Below w.heap.size w w1:=Below.gr ((below_alloc3 w _ _ _).alloc (by simp <;> omega) _) hb
 clear hb r0
 have hlc:=BL.cell 0
 have hlf:=BL.frozen 0
 simp only [List.getElem?_toArray,List.getElem?_cons_zero] at hlc
 go_wp2_with (first | ((with_reducible refine here_store ?_); refine wpList_store_blk rfl _ _ _ rfl (w.heap.size+3) (fcs (g1)) rfl rfl _ _ (BG.far (by simp <;> omega) _) (by kernel_rfl) (by rfl) (fcs_one _) ?_; intro w2 hG0 hB0 hK0; have BX':=hK0 _ (by omega) _ _ (BX.far (by simp <;> omega) _); have BY':=hK0 _ (by omega) _ _ (BY.far (by simp <;> omega) _); have BL':Blk w2 (w.heap.size+2) 151 #[.int .u64 (l0:Int),.int .u64 0,.int .u64 0,.int .u64 0]:=hK0 _ (by omega) _ _ (BL.set_ 0 _); have hyc:w2.cell? ⟨w.heap.size+1,1,none⟩=some (.int .u64 (y1:Int)):=BY'.cell 1) | ((with_reducible refine here_load (d:=some 16) ?_); refine wpList_load_fv rfl _ _ rfl (w.heap.size) rfl (x) _ _ _ (BX') (FX.out) Tryz.underlying151 rfl (by kernel_rfl) ?_) | ((with_reducible refine here_load (d:=some 19) ?_); refine wpList_load_fv rfl _ _ rfl (w.heap.size+3) rfl (g1) _ _ _ (hG0) (fv_fcs g1) Tryz.underlying151 rfl (by kernel_rfl) ?_))
 refine (r1 _).mono ?_
 rintro e w3 ⟨rfl,hb⟩
 have hBn:Below w.heap.size w w3:=Below.gr ((hB.setCell (by show w.heap.size≤w.heap.size+1+1; omega) _).trans (hB0 _ (by omega))) hb
 have BXn:=Gr.blk hb BX'
 have BYn:=Gr.blk hb BY'
 have BLn:=Gr.blk hb BL'
 have BGn:=Gr.blk hb hG0
 clear hb r1 hlc hlf hyc BX BY BL BG hB BX' BY' BL' hG0 hB0 hK0
 have BX:=BXn
 have BY:=BYn
 have BL:=BLn
 have BG:=BGn
 have hB:=hBn
 clear BXn BYn BLn BGn hBn
 have hlc:=BL.cell 1
 have hlf:=BL.frozen 1
 simp only [List.getElem?_toArray,List.getElem?_cons_zero,List.getElem?_cons_succ] at hlc
 go_wp2_with (first | ((with_reducible refine here_store ?_); refine wpList_store_blk rfl _ _ _ rfl (w.heap.size+3) (fcs (g2)) rfl rfl _ _ (BG.far (by simp <;> omega) _) (by kernel_rfl) (by rfl) (fcs_one _) ?_; intro w4 hG1 hB1 hK1; have BX':=hK1 _ (by omega) _ _ (BX.far (by simp <;> omega) _); have BY':=hK1 _ (by omega) _ _ (BY.far (by simp <;> omega) _); have BL':Blk w4 (w.heap.size+2) 151 #[.int .u64 (l0:Int),.int .u64 (l1:Int),.int .u64 0,.int .u64 0]:=hK1 _ (by omega) _ _ (BL.set_ 1 _); have hyc:w4.cell? ⟨w.heap.size+1,2,none⟩=some (.int .u64 (y2:Int)):=BY'.cell 2) | ((with_reducible refine here_load (d:=some 25) ?_); refine wpList_load_fv rfl _ _ rfl (w.heap.size) rfl (x) _ _ _ (BX') (FX.out) Tryz.underlying151 rfl (by kernel_rfl) ?_) | ((with_reducible refine here_load (d:=some 28) ?_); refine wpList_load_fv rfl _ _ rfl (w.heap.size+3) rfl (g2) _ _ _ (hG1) (fv_fcs g2) Tryz.underlying151 rfl (by kernel_rfl) ?_))
 refine (r2 _).mono ?_
 rintro e w5 ⟨rfl,hb⟩
 have hBn:Below w.heap.size w w5:=Below.gr ((hB.setCell (by show w.heap.size≤w.heap.size+1+1; omega) _).trans (hB1 _ (by omega))) hb
 have BXn:=Gr.blk hb BX'
 have BYn:=Gr.blk hb BY'
 have BLn:=Gr.blk hb BL'
 have BGn:=Gr.blk hb hG1
 clear hb r2 hlc hlf hyc BX BY BL BG hB BX' BY' BL' hG1 hB1 hK1
 have BX:=BXn
 have BY:=BYn
 have BL:=BLn
 have BG:=BGn
 have hB:=hBn
 clear BXn BYn BLn BGn hBn
 have hlc:=BL.cell 2
 have hlf:=BL.frozen 2
 simp only [List.getElem?_toArray,List.getElem?_cons_zero,List.getElem?_cons_succ] at hlc
 go_wp2_with (first | ((with_reducible refine here_store ?_); refine wpList_store_blk rfl _ _ _ rfl (w.heap.size+3) (fcs (g3)) rfl rfl _ _ (BG.far (by simp <;> omega) _) (by kernel_rfl) (by rfl) (fcs_one _) ?_; intro w6 hG2 hB2 hK2; have BX':=hK2 _ (by omega) _ _ (BX.far (by simp <;> omega) _); have BY':=hK2 _ (by omega) _ _ (BY.far (by simp <;> omega) _); have BL':Blk w6 (w.heap.size+2) 151 #[.int .u64 (l0:Int),.int .u64 (l1:Int),.int .u64 (l2:Int),.int .u64 0]:=hK2 _ (by omega) _ _ (BL.set_ 2 _); have hyc:w6.cell? ⟨w.heap.size+1,3,none⟩=some (.int .u64 (y3:Int)):=BY'.cell 3) | ((with_reducible refine here_load (d:=some 34) ?_); refine wpList_load_fv rfl _ _ rfl (w.heap.size) rfl (x) _ _ _ (BX') (FX.out) Tryz.underlying151 rfl (by kernel_rfl) ?_) | ((with_reducible refine here_load (d:=some 37) ?_); refine wpList_load_fv rfl _ _ rfl (w.heap.size+3) rfl (g3) _ _ _ (hG2) (fv_fcs g3) Tryz.underlying151 rfl (by kernel_rfl) ?_))
 refine (r3 _).mono ?_
 rintro e w7 ⟨rfl,hb⟩
 have hBn:Below w.heap.size w w7:=Below.gr ((hB.setCell (by show w.heap.size≤w.heap.size+1+1; omega) _).trans (hB2 _ (by omega))) hb
 have BXn:=Gr.blk hb BX'
 have BYn:=Gr.blk hb BY'
 have BLn:=Gr.blk hb BL'
 have BGn:=Gr.blk hb hG2
 clear hb r3 hlc hlf hyc BX BY BL BG hB BX' BY' BL' hG2 hB2 hK2
 have BX:=BXn
 have BY:=BYn
 have BL:=BLn
 have BG:=BGn
 have hB:=hBn
 clear BXn BYn BLn BGn hBn
 have hlc:=BL.cell 3
 have hlf:=BL.frozen 3
 simp only [List.getElem?_toArray,List.getElem?_cons_zero,List.getElem?_cons_succ] at hlc
 go_wp2_with (first | ((with_reducible refine here_store ?_); refine wpList_store_blk rfl _ _ _ rfl (w.heap.size+3) (fcs (g4)) rfl rfl _ _ (BG.far (by simp <;> omega) _) (by kernel_rfl) (by rfl) (fcs_one _) ?_; intro w8 hG3 hB3 hK3; have BX':=hK3 _ (by omega) _ _ (BX.far (by simp <;> omega) _); have BY':=hK3 _ (by omega) _ _ (BY.far (by simp <;> omega) _); have BL':Blk w8 (w.heap.size+2) 151 #[.int .u64 (l0:Int),.int .u64 (l1:Int),.int .u64 (l2:Int),.int .u64 (l3:Int)]:=hK3 _ (by omega) _ _ (BL.set_ 3 _)))
 have hB8:Below w.heap.size w w8:=(hB.setCell (by show w.heap.size≤w.heap.size+1+1; omega) _).trans (hB3 _ (by omega))
 have BG8:Blk w8 (w.heap.size+3) 151 _:=hG3.eq_ (fcs_words FG.out)
 have q0:w8.cell? ⟨w.heap.size+1+1,0,none⟩=some (.int .u64 (l0:Int)):=BL'.cell 0
 have q1:w8.cell? ⟨w.heap.size+1+1,1,none⟩=some (.int .u64 (l1:Int)):=BL'.cell 1
 have q2:w8.cell? ⟨w.heap.size+1+1,2,none⟩=some (.int .u64 (l2:Int)):=BL'.cell 2
 have q3:w8.cell? ⟨w.heap.size+1+1,3,none⟩=some (.int .u64 (l3:Int)):=BL'.cell 3
 have p0:w8.cell? ⟨w.heap.size+1+1+1,0,none⟩=some (.int .u64 (z0:Int)):=BG8.cell 0
 have p1:w8.cell? ⟨w.heap.size+1+1+1,1,none⟩=some (.int .u64 (z1:Int)):=BG8.cell 1
 have p2:w8.cell? ⟨w.heap.size+1+1+1,2,none⟩=some (.int .u64 (z2:Int)):=BG8.cell 2
 have p3:w8.cell? ⟨w.heap.size+1+1+1,3,none⟩=some (.int .u64 (z3:Int)):=BG8.cell 3
 have fq:∀ i,w8.frozen? ⟨w.heap.size+1+1,i,none⟩=false:=λi=>BL'.frozen i
 have fp:∀ i,w8.frozen? ⟨w.heap.size+1+1+1,i,none⟩=false:=λi=>BG8.frozen i
 clear hlc hlf hK3 BX' BY' BX BY
 go_region
 all_goals
  go_wp2
  have f1:Blk _ (w.heap.size+2) 151 #[.int .u64 (l0:Int),.int .u64 (l1:Int),.int .u64 (l2:Int),.int .u64 (l3:Int)]:=two_far BL' BG8 (by omega)
  have f2:Blk _ (w.heap.size+3) 151 #[.int .u64 (z0:Int),.int .u64 (z1:Int),.int .u64 (z2:Int),.int .u64 (z3:Int)]:=two_near BL' BG8 (by omega)
  exact bodyPost_ret (res_two_cells rfl _ _ (w.heap.size+2) (w.heap.size+3) _ _ _ _ _ _ rfl f1 rfl f2 Tryz.underlying151 rfl (by kernel_rfl) Tryz.underlying151 rfl (by kernel_rfl)) rfl ⟨by rw [FL.out,FG.out],two_below hB8 (by omega) (by omega)⟩
end
end
section
section
open Go.RowKit Go.Lib
def addW (x y:Nat):Nat:=((x+y)%(2^256)+(x+y) / (2^256)*4294968273)%(2^256)+((x+y)%(2^256)+(x+y) / (2^256)*4294968273) / (2^256)*4294968273
theorem addW_lt (x y:Nat) (hx:x<(2^256)) (hy:y<(2^256)):addW x y<(2^256):=by unfold addW; omega
theorem addW_is (x y s k u j:Nat) (hs:s<(2^256)) (he:s+(2^256)*k=x+y) (hu:u<(2^256)) (hf:u+(2^256)*j=s+k*4294968273):addW x y=u+j*4294968273:=by
 have e1:(x+y)%(2^256)=s:=by omega
 have e2:(x+y) / (2^256)=k:=by omega
 unfold addW
 rw [e1,e2]
 have e3:(s+k*4294968273)%(2^256)=u:=by omega
 have e4:(s+k*4294968273) / (2^256)=j:=by omega
 rw [e3,e4]
theorem addW_mod (x y:Nat):addW x y%pM=(x+y)%pM:=by
 refine mod_of_mult (k:=(x+y) / (2^256)+((x+y)%(2^256)+(x+y) / (2^256)*4294968273) / (2^256)) ?_
 unfold addW
 omega
theorem add_def (w:World) (x y:Nat) (hx:x<(2^256)) (hy:y<(2^256)):Calls Tryz.prog 106 #[fv x,fv y] w λe w'=>e=.returned (fv (addW x y))∧Below w.heap.size w w' :=
 (add_any w x y hx hy).mono λ_ _ ⟨⟨_,s,k,u,j,hs,he,hu,hf,hz,e⟩,hb⟩=>⟨by rw [e,hz,addW_is x y s k u j hs he hu hf],hb⟩
theorem norm_any (w:World) (x:Nat) (hx:x<(2^256)):Calls Tryz.prog 67 #[fv x] w λe w'=>e=.returned (fv (x%pM))∧Below w.heap.size w w':=by
 obtain ⟨x0,x1,x2,x3,fx⟩:=words_fv x hx
 have FX:=Lib.hid fx
 have HX:=Lib.hid hx
 rw [fx]
 clear fx hx
 go_enter Tryz.func67,Tryz.ntmps67
 go_wp2_with fail
 refine (split_at x FX.out _).mono ?_
 rintro e w1 ⟨rfl,hb1⟩
 go_wp2_with fail
 refine (reduce_any _ x HX.out).mono ?_
 rintro e w2 ⟨rfl,hb2⟩
 go_wp2_with fail
 refine (number_any _ _).mono ?_
 rintro e w3 ⟨rfl,hb3⟩
 have hg:=Below.gr (Below.gr (Below.gr (w:=w) (below_alloc2 w _ _) hb1) hb2) hb3
 have hR:Blk w3 (w.heap.size+1) 64 _:=Gr.blk hb3 (Gr.blk hb2 (Gr.blk hb1 (blk_new2 w _ _ _)))
 go_wp2_with (first | ((with_reducible refine here_store ?_); refine wpList_store_blk rfl _ _ _ rfl (w.heap.size+1) (fcs (x%pM)) rfl rfl _ _ (hR) (by kernel_rfl) (by rfl) (fcs_one _) ?_; intro w4 hL hB4 hK4))
 exact bodyPost_ret (results_cell_row rfl _ _ (w.heap.size+1) _ _ (0,0) _ rfl hL Tryz.underlying64 rfl (by kernel_rfl)) rfl ⟨rfl,hg.trans (hB4 _ (by omega))⟩
theorem of_any (w:World) (n:Nat) (hn:n<18446744073709551616):Calls Tryz.prog 74 #[.int .u64 (n:Int)] w λe w'=>e=.returned (fv n)∧Below w.heap.size w w':=by
 have e:fv n=.agg #[.int .u64 (n:Int),.int .u64 0,.int .u64 0,.int .u64 0]:=by
  have h:=fv_mk n 0 0 0 hn (by omega) (by omega) (by omega)
  exact h.symm
 rw [e]
 go_enter Tryz.func74,Tryz.ntmps74
 go_wp2
 exact bodyPost_ret (results_cell_row rfl _ _ w.heap.size _ _ (0,0) _ rfl (heap_alloc_new w _) Tryz.underlying64 rfl (by kernel_rfl)) rfl ⟨rfl,(Below.refl _ _).alloc (Nat.le_refl _) _⟩
set_option maxHeartbeats 1000000 in
set_option maxRecDepth 100000 in
theorem addF_any (w:World) (x y:Nat) (hx:x<(2^256)) (hy:y<(2^256)):Calls Tryz.prog 73 #[fv x,fv y] w λe w'=>e=.returned (fv (addP x y))∧Below w.heap.size w w':=by
 obtain ⟨v,hv⟩:∃ v,v=addW x y:=⟨_,rfl⟩
 obtain ⟨z,hz⟩:∃ z,z=v%pM:=⟨_,rfl⟩
 have HZ:=Lib.hid (And.intro hv hz)
 have hlt:=Lib.hid (hv ▸ addW_lt x y hx hy:v<(2^256))
 rw [show addP x y=z by rw [hz,hv,addW_mod]; rfl]
 clear hz hv
 have HX:=Lib.hid hx
 have HY:=Lib.hid hy
 obtain ⟨x0,x1,x2,x3,fx⟩:=words_fv x hx
 obtain ⟨y0,y1,y2,y3,fy⟩:=words_fv y hy
 have FX:=Lib.hid fx
 have FY:=Lib.hid fy
 rw [fx,fy]
 clear fx fy hx hy
 go_enter Tryz.func73,Tryz.ntmps73
 go_wp2
 refine wp_region_G (λj=>j == 7) (by kernel_rfl) ?_
 try simp only [Act.put]
 refine tkw 0 rfl (YieldsG.loadF (by rfl) _ _ rfl (w.heap.size) rfl (x) _ _ (((Blk.new w _ _).alloc _).alloc _) (FX.out) Tryz.underlying64 rfl (by kernel_rfl)) ?_
 try simp only [Act.put,aA,aZ,aS]
 refine tkw 1 rfl (YieldsG.call (v:=fv x) (by rfl) 102 _ (λw9=>by go_simp; try (first | with_reducible rfl | rfl)) (λw9 h9=>split_any w9 x)) ?_
 try simp only [Act.put,aA,aZ,aS]
 refine tkw 2 rfl (YieldsG.loadF (by rfl) _ _ rfl (w.heap.size+1) rfl (y) _ _ ((blk_new2 w _ _ _).alloc _) (FY.out) Tryz.underlying64 rfl (by kernel_rfl)) ?_
 try simp only [Act.put,aA,aZ,aS]
 refine tkw 3 rfl (YieldsG.call (v:=fv y) (by rfl) 102 _ (λw9=>by go_simp; try (first | with_reducible rfl | rfl)) (λw9 h9=>split_any w9 y)) ?_
 try simp only [Act.put,aA,aZ,aS]
 refine tkw 4 rfl (YieldsG.call (v:=fv v) (by rfl) 106 _ (λw9=>by go_simp; try (first | with_reducible rfl | rfl)) (λw9 h9=>HZ.out.1 ▸ add_def w9 x y HX.out HY.out)) ?_
 try simp only [Act.put,aA,aZ,aS]
 refine tkw 5 rfl (YieldsG.call (v:=fv z) (by rfl) 101 _ (λw9=>by go_simp; try (first | with_reducible rfl | rfl)) (λw9 h9=>HZ.out.2 ▸ reduce_any w9 _ hlt.out)) ?_
 try simp only [Act.put,aA,aZ,aS]
 refine tkw 6 rfl (YieldsG.call (v:=fv z) (by rfl) 100 _ (λw9=>by go_simp; try (first | with_reducible rfl | rfl)) (λw9 h9=>number_any w9 _)) ?_
 try simp only [Act.put,aA,aZ,aS]
 refine wpAnyG_store 7 rfl (by kernel_rfl) (by rfl) _ _ _ rfl (w.heap.size+2) (fcs (z)) rfl rfl _ _ (blk_new3 w _ _ _ _) (by kernel_rfl) (by rfl) (fcs_one _) rfl (λw6 h6 w7 hB7 hL7=>?_)
 try simp only [Act.put]
 refine wpAnyG_done (by kernel_rfl) (λw8 h8=>?_)
 have hfin:=Gr.blk h8 hL7
 have hb9:=(Below.gr (below_alloc3 w _ _ _) h6).trans ((hB7 _ (by omega)).trans (Below.mono h8 (by have:=hL7.lt; omega)))
 go_wp2
 exact bodyPost_ret (results_cell_row rfl _ _ (w.heap.size+2) _ _ (0,0) _ rfl hfin Tryz.underlying64 rfl (by kernel_rfl)) rfl ⟨rfl,hb9⟩
end
end
section
section
open Go.RowKit Go.Lib
theorem minus_fv (w:World) (x y s k:Nat) (hx:x<(2^256)) (hy:y<(2^256)) (hs:s<(2^256)) (he:s+y=x+(2^256)*k) :
  Calls Tryz.prog 122 #[fv x,fv y] w λe w'=>e=.returned (.tuple #[fv s,.int .u64 (k:Int)])∧Below w.heap.size w w':=minus_at w x y s k rfl rfl hx hy hs he
theorem product_fv (w:World) (x y lo hi:Nat) (hx:x<(2^256)) (hy:y<(2^256)) (hlo:lo<(2^256)) (he:lo+(2^256)*hi=x*y) :
  Calls Tryz.prog 103 #[fv x,fv y] w λe w'=>e=.returned (.tuple #[fv lo,fv hi])∧Below w.heap.size w w':=product_at w x y lo hi rfl rfl hx hy hlo he
set_option maxHeartbeats 1000000 in
set_option maxRecDepth 100000 in
theorem subF_any (w:World) (x y:Nat) (hx:x<(2^256)) (hy:y<(2^256)):Calls Tryz.prog 107 #[fv x,fv y] w λe w'=>e=.returned (fv (subP x y))∧Below w.heap.size w w':=by
 obtain ⟨p,hp⟩:∃ p,p=x%pM:=⟨_,rfl⟩
 obtain ⟨q,hq⟩:∃ q,q=y%pM:=⟨_,rfl⟩
 have hpl:p<(2^256):=by rw [hp]; exact mod_lt x
 have hql:q<(2^256):=by rw [hq]; exact mod_lt y
 have hpp:p<115792089237316195423570985008687907853269984665640564039457584007908834671663:=by rw [hp]; exact mod_lt_p x
 have hqp:q<115792089237316195423570985008687907853269984665640564039457584007908834671663:=by rw [hq]; exact mod_lt_p y
 obtain ⟨z,hz⟩:∃ z,z=subP x y:=⟨_,rfl⟩
 have hzs:z=if q≤p then p - q else p+115792089237316195423570985008687907853269984665640564039457584007908834671663 - q:=by rw [hz,sub_words, ← hp, ← hq]
 obtain ⟨s,k,hk,hs,he,hzk⟩:∃ s k:Nat,k≤1∧s<(2^256)∧s+q=p+(2^256)*k∧z+k*4294968273=s+(2^256)*0:=by
  by_cases h:q≤p
  ·rw [if_pos h] at hzs; exact ⟨p - q,0,by omega,by omega,by omega,by omega⟩
  ·rw [if_neg h] at hzs; exact ⟨p+(2^256) - q,1,by omega,by omega,by omega,by omega⟩
 obtain ⟨j,hj⟩:∃ j,j=k*4294968273:=⟨_,rfl⟩
 have hJ:(k:Int)*4294968273=(j:Int):=by omega
 have hjl:j<18446744073709551616:=by omega
 have hzl:z<(2^256):=by omega
 have cm:=λw=>minus_at w s j z 0 (v1:=fv s) rfl (fv_small j hjl) hs (by omega) hzl (by rw [hj]; exact hzk)
 have HP:=Lib.hid (And.intro hp hq)
 have HS:=Lib.hid (And.intro hpl (And.intro hql (And.intro hs he)))
 obtain ⟨x0,x1,x2,x3,fx⟩:=words_fv x hx
 obtain ⟨y0,y1,y2,y3,fy⟩:=words_fv y hy
 have FX:=Lib.hid fx
 have FY:=Lib.hid fy
 have HX:=Lib.hid hx
 have HY:=Lib.hid hy
 rw [fx,fy, ← hz]
 clear fx fy hx hy hp hq hpl hql hpp hqp hz hzs hk hs he hzk hj hzl
 go_enter Tryz.func107,Tryz.ntmps107
 go_wp2
 refine wp_region_G (λj=>j == 11) (by kernel_rfl) ?_
 try simp only [Act.put]
 refine tkw 0 rfl (YieldsG.loadF (by rfl) _ _ rfl (w.heap.size) rfl (x) _ _ (((Blk.new w _ _).alloc _).alloc _) (FX.out) Tryz.underlying64 rfl (by kernel_rfl)) ?_
 try simp only [Act.put,aA,aZ,aS]
 refine tkw 1 rfl (YieldsG.call (v:=fv x) (by rfl) 102 _ (λw9=>by go_simp; try (first | with_reducible rfl | rfl)) (λw9 h9=>split_any w9 x)) ?_
 try simp only [Act.put,aA,aZ,aS]
 refine tkw 2 rfl (YieldsG.call (v:=fv p) (by rfl) 101 _ (λw9=>by go_simp; try (first | with_reducible rfl | rfl)) (λw9 h9=>HP.out.1 ▸ reduce_any w9 _ HX.out)) ?_
 try simp only [Act.put,aA,aZ,aS]
 refine tkw 3 rfl (YieldsG.loadF (by rfl) _ _ rfl (w.heap.size+1) rfl (y) _ _ ((blk_new2 w _ _ _).alloc _) (FY.out) Tryz.underlying64 rfl (by kernel_rfl)) ?_
 try simp only [Act.put,aA,aZ,aS]
 refine tkw 4 rfl (YieldsG.call (v:=fv y) (by rfl) 102 _ (λw9=>by go_simp; try (first | with_reducible rfl | rfl)) (λw9 h9=>split_any w9 y)) ?_
 try simp only [Act.put,aA,aZ,aS]
 refine tkw 5 rfl (YieldsG.call (v:=fv q) (by rfl) 101 _ (λw9=>by go_simp; try (first | with_reducible rfl | rfl)) (λw9 h9=>HP.out.2 ▸ reduce_any w9 _ HY.out)) ?_
 try simp only [Act.put,aA,aZ,aS]
 refine tkw 6 rfl (YieldsG.call (v:=.tuple #[fv s,.int .u64 (k:Int)]) (by rfl) 122 _ (λw9=>by go_simp; try (first | with_reducible rfl | rfl)) (λw9 h9=>minus_fv w9 p q s k HS.out.1 HS.out.2.1 HS.out.2.2.1 HS.out.2.2.2)) ?_
 try simp only [Act.put,aA,aZ,aS]
 refine tk 7 rfl ?_
 try simp only [Act.put,aA,aZ,aS]
 refine tk 8 rfl ?_
 try simp only [Act.put,aA,aZ,aS]
 refine wpAnyG_takeA 9 rfl (by kernel_rfl) (λ_ _ _ h=>h) (λ_=>YieldsG.pure (by rfl) (λw9 _=>by go_simp; try with_reducible rfl)) ?_
 try simp only [Act.put,aA,aZ,aS]
 refine wpAnyG_sole 10 rfl (by kernel_rfl) (by rfl) (λw3 h3 K hK=>?_)
 go_simp
 refine hK _ _ (λ_=>gr_alloc _ _) ?_
 clear hK K
 try simp only [Act.put,aA,aZ,aS]
 refine wpAnyG_store 11 rfl (by kernel_rfl) (by rfl) _ _ _ rfl (w3.heap.size) (fcs (s)) rfl rfl _ _ (Blk.new w3 _ _) (by kernel_rfl) (by rfl) (fcs_one _) rfl (λw6 h6 w7 hB7 hL7=>?_)
 try simp only [Act.put]
 refine wpAnyG_takeA 12 rfl (by kernel_rfl) (λ_ _ _ h=>h) (λ_=>YieldsG.pure (by rfl) (λw9 _=>by go_simp; try with_reducible rfl)) ?_
 try simp only [Act.put,aA,aZ,aS]
 refine wpAnyG_done (by kernel_rfl) (λw8 h8=>?_)
 have hL8:=Gr.blk h8 hL7
 have BR8:Blk w8 (w.heap.size+2) 64 _:=Gr.blk h8 (Blk.below (B:=w3.heap.size) (Gr.blk h6 (Blk.alloc (Gr.blk h3 (blk_new3 w _ _ _ _)) _)) (hB7 _ (Nat.le_refl _)) (by have:=h3.size; simp at this; omega))
 have hsz:w.heap.size+3≤w3.heap.size:=by have:=h3.size; simp at this; omega
 have hb9:Below w.heap.size w w8:=Below.gr ((Below.gr ((Below.gr (below_alloc3 w _ _ _) h3).alloc (by omega) _) h6).trans (hB7 _ (by omega))) h8
 clear h3 h6 hB7 hL7 h8
 go_wp2_with (first | ((with_reducible refine here_load (d:=some 18) ?_); refine wpList_load_fv rfl _ _ rfl (w3.heap.size) rfl (s) _ _ _ (hL8) (fv_fcs s) Tryz.underlying151 rfl (by kernel_rfl) ?_))
 refine (cm _).mono ?_
 rintro e w9 ⟨rfl,hb⟩
 have BR9:=Gr.blk hb BR8
 have BT9:=Gr.blk hb hL8
 have hBn:=Below.gr hb9 hb
 clear hb hb9 BR8 hL8 cm
 go_wp2_with (first | ((with_reducible refine here_store ?_); refine wpList_store_blk rfl _ _ _ rfl (w3.heap.size) (fcs (z)) rfl rfl _ _ (BT9) (by kernel_rfl) (by rfl) (fcs_one _) ?_; intro w10 hL10 hB10 hK10; have BR10:=hK10 _ (by omega) _ _ BR9) | ((with_reducible refine here_load (d:=some 25) ?_); refine wpList_load_fv rfl _ _ rfl (w3.heap.size) rfl (z) _ _ _ (hL10) (fv_fcs z) Tryz.underlying151 rfl (by kernel_rfl) ?_))
 refine (number_any _ _).mono ?_
 rintro e w11 ⟨rfl,hb⟩
 have BR11:=Gr.blk hb BR10
 have hBm:=Below.gr (hBn.trans (hB10 _ (by omega))) hb
 go_wp2_with (first | ((with_reducible refine here_store ?_); refine wpList_store_blk rfl _ _ _ rfl (w.heap.size+2) (fcs (z)) rfl rfl _ _ (BR11) (by kernel_rfl) (by rfl) (fcs_one _) ?_; intro w12 hL12 hB12 hK12))
 exact bodyPost_ret (results_cell_row rfl _ _ (w.heap.size+2) _ _ (0,0) _ rfl hL12 Tryz.underlying64 rfl (by kernel_rfl)) rfl ⟨rfl,hBm.trans (hB12 _ (by omega))⟩
theorem negF_any (w:World) (x:Nat) (hx:x<(2^256)):Calls Tryz.prog 72 #[fv x] w λe w'=>e=.returned (fv (negP x))∧Below w.heap.size w w':=by
 obtain ⟨z,hz⟩:∃ z,z=negP x:=⟨_,rfl⟩
 have cs:∀ w,Calls Tryz.prog 107 #[.agg #[.int .u64 0,.int .u64 0,.int .u64 0,.int .u64 0],fv x] w λe w'=>e=.returned (fv z)∧Below w.heap.size w w':=by
  intro w; rw [hz,neg_sub, ← fv_0]; exact subF_any w 0 x (by omega) hx
 obtain ⟨x0,x1,x2,x3,fx⟩:=words_fv x hx
 rw [fx] at cs
 rw [fx, ← hz]
 clear fx hx hz
 go_enter Tryz.func72,Tryz.ntmps72
 go_wp2_with fail
 refine (cs _).mono ?_
 rintro e w1 ⟨rfl,hb⟩
 have BR:Blk w1 (w.heap.size+1) 64 _:=Gr.blk hb (blk_new2 w _ _ _)
 have hB:=Below.gr (below_alloc2 w _ _) hb
 go_wp2_with (first | ((with_reducible refine here_store ?_); refine wpList_store_blk rfl _ _ _ rfl (w.heap.size+1) (fcs (z)) rfl rfl _ _ (BR) (by kernel_rfl) (by rfl) (fcs_one _) ?_; intro w2 hL2 hB2 hK2))
 exact bodyPost_ret (results_cell_row rfl _ _ (w.heap.size+1) _ _ (0,0) _ rfl hL2 Tryz.underlying64 rfl (by kernel_rfl)) rfl ⟨rfl,hB.trans (hB2 _ (by omega))⟩
theorem mul_split (x y:Nat) (hx:x<(2^256)) (hy:y<(2^256)):∃ lo hi f t b c g:Nat,lo<(2^256)∧hi<(2^256)∧lo+(2^256)*hi=x*y∧f<(2^256)∧f+(2^256)*t=hi*4294968273∧t<18446744073709551616∧b<18446744073709551616∧c<18446744073709551616∧b+18446744073709551616*c=t*4294968273∧g=b+18446744073709551616*c∧g<(2^256)∧(lo+f+g)%pM=mulP x y:=by
 have h:x*y≤115792089237316195423570985008687907853269984665640564039457584007913129639935*115792089237316195423570985008687907853269984665640564039457584007913129639935:=Nat.mul_le_mul (by omega) (by omega)
 refine ⟨x*y%(2^256),x*y / (2^256),x*y / (2^256)*4294968273%(2^256),x*y / (2^256)*4294968273 / (2^256),x*y / (2^256)*4294968273 / (2^256)*4294968273%18446744073709551616,x*y / (2^256)*4294968273 / (2^256)*4294968273 / 18446744073709551616,x*y / (2^256)*4294968273 / (2^256)*4294968273,by omega,by omega,by omega,by omega,by omega,by omega,by omega,by omega,by omega,by omega,by omega,?_⟩
 unfold mulP
 refine mod_of_mult (k:=x*y / (2^256)+x*y / (2^256)*4294968273 / (2^256)) ?_
 generalize x*y=m at *
 omega
set_option maxHeartbeats 1000000 in
set_option maxRecDepth 100000 in
theorem mulF_any (w:World) (x y:Nat) (hx:x<(2^256)) (hy:y<(2^256)):Calls Tryz.prog 71 #[fv x,fv y] w λe w'=>e=.returned (fv (mulP x y))∧Below w.heap.size w w':=by
 obtain ⟨lo,hi,f,t,b,c,g,hlo,hhi,he,hf,hft,ht,hb,hc,hbc,hg,hgl,hfin⟩:=mul_split x y hx hy
 obtain ⟨a,ha⟩:∃ a,a=addW lo f:=⟨_,rfl⟩
 obtain ⟨v,hv⟩:∃ v,v=addW a g:=⟨_,rfl⟩
 obtain ⟨z,hz⟩:∃ z,z=mulP x y:=⟨_,rfl⟩
 have hal:a<(2^256):=by rw [ha]; exact addW_lt _ _ hlo hf
 have hvl:v<(2^256):=by rw [hv]; exact addW_lt _ _ hal hgl
 have hvz:v%pM=z:=by
  rw [hz, ← hfin,hv,addW_mod, ← Nat.mod_add_mod,ha,addW_mod,Nat.mod_add_mod]
 have ct:∀ w,Calls Tryz.prog 104 #[fv hi,.int .u64 4294968273] w λe w'=>e=.returned (.tuple #[fv f,.int .u64 (t:Int)])∧Below w.heap.size w w':=λw=>times_at (v:=fv hi) w hi 4294968273 f t rfl hhi (by omega) hf hft
 have cm:∀ w,Calls Tryz.prog 105 #[.int .u64 (t:Int),.int .u64 4294968273] w λe w'=>e=.returned (.tuple #[.int .u64 (c:Int),.int .u64 (b:Int)])∧w'=w:=λw=>mul64_at w t 4294968273 c b ht (by omega) hb hbc
 have ca:=λw=>ha ▸ add_def w lo f hlo hf
 have hgf:fv g=.agg #[.int .u64 (b:Int),.int .u64 (c:Int),.int .u64 0,.int .u64 0]:=by
  have h:Value.agg #[.int .u64 (b:Int),.int .u64 (c:Int),.int .u64 0,.int .u64 0]=fv (b+18446744073709551616*c+340282366920938463463374607431768211456*0+6277101735386680763835789423207666416102355444464034512896*0):=fv_mk b c 0 0 hb hc (by omega) (by omega)
  exact (h.trans (congrArg fv (by omega))).symm
 have cb:∀ w,Calls Tryz.prog 106 #[fv a,.agg #[.int .u64 (b:Int),.int .u64 (c:Int),.int .u64 0,.int .u64 0]] w λe w'=>e=.returned (fv v)∧Below w.heap.size w w':=by
  intro w; rw [← hgf,hv]; exact add_def w a g hal hgl
 have cr:∀ w,Calls Tryz.prog 101 #[fv v] w λe w'=>e=.returned (fv z)∧Below w.heap.size w w':=by
  intro w; rw [← hvz]; exact reduce_any w v hvl
 have HP:=Lib.hid (And.intro hlo he)
 obtain ⟨x0,x1,x2,x3,fx⟩:=words_fv x hx
 obtain ⟨y0,y1,y2,y3,fy⟩:=words_fv y hy
 have FX:=Lib.hid fx
 have FY:=Lib.hid fy
 have HX:=Lib.hid (And.intro hx hy)
 rw [fx,fy, ← hz]
 clear fx fy hx hy hlo hhi he hf hft ht hb hc hbc hg hgl hfin ha hv hz hal hvl hvz hgf
 go_enter Tryz.func71,Tryz.ntmps71
 go_wp2
 refine wp_region_G (λj=>j == 10 || j == 11) (by kernel_rfl) ?_
 try simp only [Act.put]
 refine tkw 0 rfl (YieldsG.loadF (by rfl) _ _ rfl (w.heap.size) rfl (x) _ _ (((Blk.new w _ _).alloc _).alloc _) (FX.out) Tryz.underlying64 rfl (by kernel_rfl)) ?_
 try simp only [Act.put,aA,aZ,aS]
 refine tkw 1 rfl (YieldsG.call (v:=fv x) (by rfl) 102 _ (λw9=>by go_simp; try (first | with_reducible rfl | rfl)) (λw9 h9=>split_any w9 x)) ?_
 try simp only [Act.put,aA,aZ,aS]
 refine tkw 2 rfl (YieldsG.loadF (by rfl) _ _ rfl (w.heap.size+1) rfl (y) _ _ ((blk_new2 w _ _ _).alloc _) (FY.out) Tryz.underlying64 rfl (by kernel_rfl)) ?_
 try simp only [Act.put,aA,aZ,aS]
 refine tkw 3 rfl (YieldsG.call (v:=fv y) (by rfl) 102 _ (λw9=>by go_simp; try (first | with_reducible rfl | rfl)) (λw9 h9=>split_any w9 y)) ?_
 try simp only [Act.put,aA,aZ,aS]
 refine tkw 4 rfl (YieldsG.call (v:=.tuple #[fv lo,fv hi]) (by rfl) 103 _ (λw9=>by go_simp; try (first | with_reducible rfl | rfl)) (λw9 h9=>product_fv w9 x y lo hi HX.out.1 HX.out.2 HP.out.1 HP.out.2)) ?_
 try simp only [Act.put,aA,aZ,aS]
 refine tk 5 rfl ?_
 try simp only [Act.put,aA,aZ,aS]
 refine tk 6 rfl ?_
 try simp only [Act.put,aA,aZ,aS]
 refine wpAnyG_takeA 7 rfl (by kernel_rfl) (λ_ _ _ h=>h) (λ_=>YieldsG.pure (by rfl) (λw9 _=>by go_simp; try with_reducible rfl)) ?_
 try simp only [Act.put,aA,aZ,aS]
 refine wpAnyG_duo 8 9 rfl rfl (by kernel_rfl) (by rfl) (by rfl) (λw3 h3 K hK=>?_) (λw3 h3 K hK=>?_)
 ·go_simp
  refine hK _ _ (λ_=>gr_alloc _ _) ?_
  clear hK K
  try simp only [Act.put,aA,aZ,aS]
  refine wpAnyG_sole 9 rfl (by kernel_rfl) (by rfl) (λw4 h4 K hK=>?_)
  go_simp
  refine hK _ _ (λ_=>gr_alloc _ _) ?_
  clear hK K
  try simp only [Act.put,aA,aZ,aS]
  refine wpAnyG_storeK 10 rfl (by kernel_rfl) (by rfl) _ _ _ rfl (w3.heap.size) (fcs (lo)) rfl rfl _ _ (Gr.blk h4 (Blk.new w3 _ _) |>.alloc _) (by kernel_rfl) (by rfl) (fcs_one _) rfl (λw6 h6 w7 hB7 hK7 hL7=>?_)
  try simp only [Act.put]
  have hs4:w3.heap.size+1≤w4.heap.size:=by have:=h4.size; simp at this; omega
  have hs3:w.heap.size+3≤w3.heap.size:=by have:=h3.size; simp at this; omega
  have B6:Blk w7 w4.heap.size 151 _:=hK7 _ (by omega) _ _ (Gr.blk h6 (Blk.new w4 _ _))
  have BR7:Blk w7 (w.heap.size+2) 64 _:=hK7 _ (by omega) _ _ (Gr.blk h6 (Blk.alloc (Gr.blk h4 (Blk.alloc (Gr.blk h3 (blk_new3 w _ _ _ _)) _)) _))
  have hb7:Below w.heap.size w w7:=(Below.gr ((Below.gr ((Below.gr (below_alloc3 w _ _ _) h3).alloc (by omega) _) h4).alloc (by omega) _) h6).trans (hB7 _ (by omega))
  refine wpAnyG_storeK 11 rfl (by kernel_rfl) (by rfl) _ _ _ rfl (w4.heap.size) (fcs (hi)) rfl rfl _ _ (B6) (by kernel_rfl) (by rfl) (fcs_one _) rfl (λw6 h7 w8 hB8 hK8 hL8=>?_)
  try simp only [Act.put]
  refine wpAnyG_done (by kernel_rfl) (λw9 h9=>?_)
  have B5:Blk w9 w3.heap.size 151 _:=Gr.blk h9 (hK8 _ (by omega) _ _ (Gr.blk h7 hL7))
  have B6:=Gr.blk h9 hL8
  have BR9:Blk w9 (w.heap.size+2) 64 _:=Gr.blk h9 (hK8 _ (by omega) _ _ (Gr.blk h7 BR7))
  have hb9:Below w.heap.size w w9:=Below.gr ((Below.gr hb7 h7).trans (hB8 _ (by omega))) h9
  have hsz9:w4.heap.size+1≤w9.heap.size:=by have h1:=B5.lt; have h2:=B6.lt; omega
  clear h3 h4 h6 h7 h9 hB7 hB8 hK7 hK8 hL7 hL8 BR7 hb7
  go_wp2_with (first | ((with_reducible refine here_load (d:=some 20) ?_); refine wpList_load_fv rfl _ _ rfl (w4.heap.size) rfl (hi) _ _ _ (B6) (fv_fcs hi) Tryz.underlying151 rfl (by kernel_rfl) ?_))
  refine (ct _).mono ?_
  rintro e w10 ⟨rfl,hb⟩
  have B5:=Gr.blk hb B5
  have BR:=Gr.blk hb BR9
  have hBn:=Below.gr hb9 hb
  have hsz10:w4.heap.size+1≤w10.heap.size:=by have:=hb.size; omega
  clear hb hb9 BR9 B6 ct
  go_wp2_with (first | ((with_reducible refine here_store ?_); refine wpList_store_blk rfl _ _ _ rfl (w10.heap.size) (fcs (f)) rfl rfl _ _ (Blk.new w10 _ _) (by kernel_rfl) (by rfl) (fcs_one _) ?_; intro w11 hL11 hB11 hK11; have B5':=hK11 _ (by omega) _ _ (B5.alloc _); have BR':=hK11 _ (by omega) _ _ (BR.alloc _)))
  refine (cm _).mono ?_
  rintro e w12 ⟨rfl,rfl⟩
  go_wp2_with (first | ((with_reducible refine here_load (d:=some 29) ?_); refine wpList_load_fv rfl _ _ rfl (w3.heap.size) rfl (lo) _ _ _ (B5') (fv_fcs lo) Tryz.underlying151 rfl (by kernel_rfl) ?_) | ((with_reducible refine here_load (d:=some 30) ?_); refine wpList_load_fv rfl _ _ rfl (w10.heap.size) rfl (f) _ _ _ (hL11) (fv_fcs f) Tryz.underlying151 rfl (by kernel_rfl) ?_))
  refine (ca _).mono ?_
  rintro e w13 ⟨rfl,hb13⟩
  go_wp2_with fail
  refine (cb _).mono ?_
  rintro e w14 ⟨rfl,hb14⟩
  go_wp2_with fail
  refine (cr _).mono ?_
  rintro e w15 ⟨rfl,hb15⟩
  go_wp2_with fail
  refine (number_any _ _).mono ?_
  rintro e w16 ⟨rfl,hb16⟩
  have BR16:=Gr.blk hb16 (Gr.blk hb15 (Gr.blk hb14 (Gr.blk hb13 BR')))
  have hB16:=Below.gr (Below.gr (Below.gr (Below.gr ((hBn.alloc (by omega) _).trans (hB11 _ (by omega))) hb13) hb14) hb15) hb16
  clear hb13 hb14 hb15 hb16
  go_wp2_with (first | ((with_reducible refine here_store ?_); refine wpList_store_blk rfl _ _ _ rfl (w.heap.size+2) (fcs (z)) rfl rfl _ _ (BR16) (by kernel_rfl) (by rfl) (fcs_one _) ?_; intro w17 hL17 hB17 hK17))
  exact bodyPost_ret (results_cell_row rfl _ _ (w.heap.size+2) _ _ (0,0) _ rfl hL17 Tryz.underlying64 rfl (by kernel_rfl)) rfl ⟨rfl,hB16.trans (hB17 _ (by omega))⟩
 ·go_simp
  refine hK _ _ (λ_=>gr_alloc _ _) ?_
  clear hK K
  try simp only [Act.put,aA,aZ,aS]
  refine wpAnyG_sole 8 rfl (by kernel_rfl) (by rfl) (λw4 h4 K hK=>?_)
  go_simp
  refine hK _ _ (λ_=>gr_alloc _ _) ?_
  clear hK K
  try simp only [Act.put,aA,aZ,aS]
  refine wpAnyG_storeK 10 rfl (by kernel_rfl) (by rfl) _ _ _ rfl (w4.heap.size) (fcs (lo)) rfl rfl _ _ (Blk.new w4 _ _) (by kernel_rfl) (by rfl) (fcs_one _) rfl (λw6 h6 w7 hB7 hK7 hL7=>?_)
  try simp only [Act.put]
  have hs4:w3.heap.size+1≤w4.heap.size:=by have:=h4.size; simp at this; omega
  have hs3:w.heap.size+3≤w3.heap.size:=by have:=h3.size; simp at this; omega
  have B6:Blk w7 w3.heap.size 151 _:=hK7 _ (by omega) _ _ (Gr.blk h6 (Gr.blk h4 (Blk.new w3 _ _) |>.alloc _))
  have BR7:Blk w7 (w.heap.size+2) 64 _:=hK7 _ (by omega) _ _ (Gr.blk h6 (Blk.alloc (Gr.blk h4 (Blk.alloc (Gr.blk h3 (blk_new3 w _ _ _ _)) _)) _))
  have hb7:Below w.heap.size w w7:=(Below.gr ((Below.gr ((Below.gr (below_alloc3 w _ _ _) h3).alloc (by omega) _) h4).alloc (by omega) _) h6).trans (hB7 _ (by omega))
  refine wpAnyG_storeK 11 rfl (by kernel_rfl) (by rfl) _ _ _ rfl (w3.heap.size) (fcs (hi)) rfl rfl _ _ (B6) (by kernel_rfl) (by rfl) (fcs_one _) rfl (λw6 h7 w8 hB8 hK8 hL8=>?_)
  try simp only [Act.put]
  refine wpAnyG_done (by kernel_rfl) (λw9 h9=>?_)
  have B5:Blk w9 w4.heap.size 151 _:=Gr.blk h9 (hK8 _ (by omega) _ _ (Gr.blk h7 hL7))
  have B6:=Gr.blk h9 hL8
  have BR9:Blk w9 (w.heap.size+2) 64 _:=Gr.blk h9 (hK8 _ (by omega) _ _ (Gr.blk h7 BR7))
  have hb9:Below w.heap.size w w9:=Below.gr ((Below.gr hb7 h7).trans (hB8 _ (by omega))) h9
  have hsz9:w4.heap.size+1≤w9.heap.size:=by have h1:=B5.lt; have h2:=B6.lt; omega
  clear h3 h4 h6 h7 h9 hB7 hB8 hK7 hK8 hL7 hL8 BR7 hb7
  go_wp2_with (first | ((with_reducible refine here_load (d:=some 20) ?_); refine wpList_load_fv rfl _ _ rfl (w3.heap.size) rfl (hi) _ _ _ (B6) (fv_fcs hi) Tryz.underlying151 rfl (by kernel_rfl) ?_))
  refine (ct _).mono ?_
  rintro e w10 ⟨rfl,hb⟩
  have B5:=Gr.blk hb B5
  have BR:=Gr.blk hb BR9
  have hBn:=Below.gr hb9 hb
  have hsz10:w4.heap.size+1≤w10.heap.size:=by have:=hb.size; omega
  clear hb hb9 BR9 B6 ct
  go_wp2_with (first | ((with_reducible refine here_store ?_); refine wpList_store_blk rfl _ _ _ rfl (w10.heap.size) (fcs (f)) rfl rfl _ _ (Blk.new w10 _ _) (by kernel_rfl) (by rfl) (fcs_one _) ?_; intro w11 hL11 hB11 hK11; have B5':=hK11 _ (by omega) _ _ (B5.alloc _); have BR':=hK11 _ (by omega) _ _ (BR.alloc _)))
  refine (cm _).mono ?_
  rintro e w12 ⟨rfl,rfl⟩
  go_wp2_with (first | ((with_reducible refine here_load (d:=some 29) ?_); refine wpList_load_fv rfl _ _ rfl (w4.heap.size) rfl (lo) _ _ _ (B5') (fv_fcs lo) Tryz.underlying151 rfl (by kernel_rfl) ?_) | ((with_reducible refine here_load (d:=some 30) ?_); refine wpList_load_fv rfl _ _ rfl (w10.heap.size) rfl (f) _ _ _ (hL11) (fv_fcs f) Tryz.underlying151 rfl (by kernel_rfl) ?_))
  refine (ca _).mono ?_
  rintro e w13 ⟨rfl,hb13⟩
  go_wp2_with fail
  refine (cb _).mono ?_
  rintro e w14 ⟨rfl,hb14⟩
  go_wp2_with fail
  refine (cr _).mono ?_
  rintro e w15 ⟨rfl,hb15⟩
  go_wp2_with fail
  refine (number_any _ _).mono ?_
  rintro e w16 ⟨rfl,hb16⟩
  have BR16:=Gr.blk hb16 (Gr.blk hb15 (Gr.blk hb14 (Gr.blk hb13 BR')))
  have hB16:=Below.gr (Below.gr (Below.gr (Below.gr ((hBn.alloc (by omega) _).trans (hB11 _ (by omega))) hb13) hb14) hb15) hb16
  clear hb13 hb14 hb15 hb16
  go_wp2_with (first | ((with_reducible refine here_store ?_); refine wpList_store_blk rfl _ _ _ rfl (w.heap.size+2) (fcs (z)) rfl rfl _ _ (BR16) (by kernel_rfl) (by rfl) (fcs_one _) ?_; intro w17 hL17 hB17 hK17))
  exact bodyPost_ret (results_cell_row rfl _ _ (w.heap.size+2) _ _ (0,0) _ rfl hL17 Tryz.underlying64 rfl (by kernel_rfl)) rfl ⟨rfl,hB16.trans (hB17 _ (by omega))⟩
end
end
section
namespace Nt
def Pr (p:Nat):Prop:=2≤p∧∀ k,0<k→k<p→Nat.gcd k p=1
def bin:Nat→Nat→Nat
  | _,0=>1
  | 0,_+1=>0
  | n+1,k+1=>bin n k+bin n (k+1)
theorem bin_zero (n:Nat):bin n 0=1:=by cases n <;> rfl
theorem bin_over:∀ (n k:Nat),n<k→bin n k=0
  | 0,k+1,_=>rfl
  | n+1,k+1,h=>by rw [bin,bin_over n k (by omega),bin_over n (k+1) (by omega)]
theorem bin_self:∀ n,bin n n=1
  | 0=>rfl
  | n+1=>by rw [bin,bin_self n,bin_over n (n+1) (by omega)]
theorem bin_mul : ∀ (n k : Nat), (k + 1) * bin (n + 1) (k + 1) = (n + 1) * bin n k
  | 0,0=>rfl
  | 0,k+1=>by
    show (k+2)*(bin 0 (k+1)+bin 0 (k+2))=_
    rfl
  | n+1,0=>by
    have h:=bin_mul n 0
    have e:bin (n+1+1) (0+1)=bin (n+1) 0+bin (n+1) (0+1):=rfl
    rw [e,bin_zero]
    rw [bin_zero] at h
    omega
  | n+1,k+1=>by
    have h1:=bin_mul n k
    have h2:=bin_mul n (k+1)
    rw [bin,Nat.mul_add,h2]
    have e1:(k+1+1)*bin (n+1) (k+1)=(n+1)*bin n k+bin (n+1) (k+1):=by rw [Nat.add_mul (k+1) 1,h1,Nat.one_mul]
    rw [e1]
    have e2:bin (n+1) (k+1)=bin n k+bin n (k+1):=rfl
    rw [e2]
    simp only [Nat.add_mul,Nat.mul_add,Nat.one_mul]
    omega
def bsum (n a:Nat):Nat→Nat
  | 0=>0
  | k+1=>bsum n a k+bin n k*a ^ k
theorem bsum_step (n a : Nat) : ∀ k, bsum (n + 1) a (k + 1) = bsum n a (k + 1) + a * bsum n a k
  | 0=>by simp [bsum,bin_zero]
  | k+1=>by
    rw [bsum,bsum_step n a k]
    have e1:bsum n a (k+1+1)=bsum n a (k+1)+bin n (k+1)*a ^ (k+1):=rfl
    have e2:bsum n a (k+1)=bsum n a k+bin n k*a ^ k:=rfl
    have e3:bin (n+1) (k+1)=bin n k+bin n (k+1):=rfl
    have e4:a*(bin n k*a ^ k)=bin n k*a ^ (k+1):=by rw [Nat.pow_succ,Nat.mul_left_comm,Nat.mul_comm a]
    rw [e1,e2,e3,Nat.add_mul,Nat.mul_add,e4]
    omega
theorem pow_bin (a : Nat) : ∀ n, (a + 1) ^ n = bsum n a (n + 1)
  | 0=>by simp [bsum,bin]
  | n+1=>by
    rw [bsum_step,Nat.pow_succ,pow_bin a n]
    have e:bsum n a (n+1+1)=bsum n a (n+1)+bin n (n+1)*a ^ (n+1):=rfl
    rw [e,bin_over n (n+1) (by omega),Nat.zero_mul,Nat.mul_add,Nat.mul_one,Nat.add_zero,Nat.mul_comm]
    omega
theorem bin_dvd {p : Nat} (hp : Pr p) (k : Nat) (h0 : 0 < k) (h1 : k < p) : p ∣ bin p k := by
  obtain ⟨n,rfl⟩:∃ n,p=n+1:=⟨p - 1,by omega⟩
  obtain ⟨j,rfl⟩:∃ j,k=j+1:=⟨k - 1,by omega⟩
  have hm:=bin_mul n j
  have hd:n+1 ∣ (j+1)*bin (n+1) (j+1):=⟨_,hm⟩
  have hc:Nat.Coprime (n+1) (j+1):=by
    have:=hp.2 (j+1) h0 h1
    unfold Nat.Coprime
    rw [Nat.gcd_comm]
    exact this
  exact hc.dvd_of_dvd_mul_left hd
theorem bsum_mod {p : Nat} (hp : Pr p) (a : Nat) : ∀ k, 0 < k → k ≤ p → bsum p a k % p = 1
  | 0,h,_=>by omega
  | 1,_,_=>by
    have:bsum p a 1=1:=by simp [bsum,bin_zero]
    rw [this]
    exact Nat.mod_eq_of_lt hp.1
  | k+2,_,h=>by
    have ih:=bsum_mod hp a (k+1) (by omega) (by omega)
    obtain ⟨c,hc⟩:=bin_dvd hp (k+1) (by omega) (by omega)
    rw [bsum,hc,Nat.mul_assoc,Nat.add_mul_mod_self_left]
    exact ih
theorem flt_all {p : Nat} (hp : Pr p) : ∀ a, a ^ p % p = a % p
  | 0=>by
    obtain ⟨n,hn⟩:∃ n,p=n+1:=⟨p - 1,by have:=hp.1; omega⟩
    rw [hn,Nat.pow_succ,Nat.mul_zero]
  | a+1=>by
    have h0:=hp.1
    rw [pow_bin,bsum,bin_self,Nat.one_mul,Nat.add_mod,bsum_mod hp a p (by omega) (Nat.le_refl _),flt_all hp a,Nat.add_comm 1,Nat.mod_add_mod]
theorem cop {p:Nat} (hp:Pr p) (a:Nat) (ha:a%p≠0):Nat.Coprime p a:=by
  unfold Nat.Coprime
  rw [Nat.gcd_rec]
  exact hp.2 (a%p) (Nat.pos_of_ne_zero ha) (Nat.mod_lt _ (by have:=hp.1; omega))
theorem flt {p : Nat} (hp : Pr p) (a : Nat) (ha : a % p ≠ 0) : a ^ (p - 1) % p = 1 := by
  have h2:=hp.1
  have ha0:0<a:=by
    rcases Nat.eq_zero_or_pos a with h | h
    · subst h; simp at ha
    · exact h
  have hpos:0<a ^ (p - 1):=Nat.pow_pos ha0
  have e:a ^ p=a*a ^ (p - 1):=by
    conv=>lhs; rw [show p=(p - 1)+1 by omega]
    rw [Nat.pow_succ,Nat.mul_comm]
  have h:=flt_all hp a
  have hd:p ∣ a*(a ^ (p - 1) - 1):=by
    rw [Nat.mul_sub,Nat.mul_one, ← e]
    exact Nat.dvd_of_mod_eq_zero (Nat.sub_mod_eq_zero_of_mod_eq h)
  obtain ⟨c,hc⟩:=(cop hp a ha).dvd_of_dvd_mul_left hd
  have h3:a ^ (p - 1)=1+p*c:=by omega
  rw [h3,Nat.add_mul_mod_self_left]
  exact Nat.mod_eq_of_lt h2
theorem has_prime : ∀ (f g : Nat), g ≤ f → 2 ≤ g → ∃ r, Pr r ∧ r ∣ g
  | 0,g,h,h2=>by omega
  | f + 1, g, h, h2 => by
    by_cases hp:Pr g
    · exact ⟨g,hp,Nat.dvd_refl _⟩
    · have hn:¬ ∀ k,0<k→k<g→Nat.gcd k g=1:=λhk=>hp ⟨h2,hk⟩
      obtain ⟨k,hk⟩:=Classical.not_forall.1 hn
      obtain ⟨h0,hk⟩:=Classical.not_imp.1 hk
      obtain ⟨h1,hk⟩:=Classical.not_imp.1 hk
      have hle:Nat.gcd k g≤k:=Nat.gcd_le_left g h0
      have hpos:0<Nat.gcd k g:=Nat.gcd_pos_of_pos_left g h0
      obtain ⟨r,hr,hd⟩:=has_prime f (Nat.gcd k g) (by omega) (by omega)
      exact ⟨r,hr,Nat.dvd_trans hd (Nat.gcd_dvd_right k g)⟩
theorem pow_one_mod {b m r:Nat} (hr:2≤r) (h:b ^ m%r=1) (k:Nat):b ^ (m*k)%r=1:=by
  rw [Nat.pow_mul,Nat.pow_mod,h,Nat.one_pow]
  exact Nat.mod_eq_of_lt hr
theorem pow_gcd {b r : Nat} (hr : 2 ≤ r) (m n : Nat) : b ^ m % r = 1 → b ^ n % r = 1 → b ^ (Nat.gcd m n) % r = 1 := by
  induction m,n using Nat.gcd.induction with
  | H0 n=>intro _ h; rw [Nat.gcd_zero_left]; exact h
  | H1 m n hm ih =>
    intro h1 h2
    rw [Nat.gcd_rec]
    refine ih ?_ h1
    have e:b ^ n=b ^ (m*(n / m))*b ^ (n%m):=by rw [← Nat.pow_add,Nat.div_add_mod]
    rw [e,Nat.mul_mod,pow_one_mod hr h1,Nat.one_mul,Nat.mod_mod] at h2
    exact h2
theorem pock_one {N a q : Nat} (hq : Pr q) (hd : q ∣ N - 1) (h1 : a ^ (N - 1) % N = 1) (hg : Nat.gcd (a ^ ((N - 1) / q) % N + (N - 1)) N = 1) (hN : 2 ≤ N) (r : Nat) (hr : Pr r) (hrN : r ∣ N) : q ∣ r - 1 := by
  have hr2:=hr.1
  have hb:(a ^ ((N - 1) / q)) ^ q%r=1:=by
    rw [← Nat.pow_mul,Nat.div_mul_cancel hd]
    have:a ^ (N - 1)%N%r=1%r:=by rw [h1]
    rw [Nat.mod_mod_of_dvd _ hrN] at this
    rw [this]
    exact Nat.mod_eq_of_lt hr2
  generalize hbd:a ^ ((N - 1) / q)=b at hb hg
  have hb0:b%r≠0:=by
    intro h0
    have hq0:q≠0:=by have:=hq.1; omega
    rw [Nat.pow_mod,h0,Nat.zero_pow (by omega)] at hb
    simp at hb
  have hf:=flt hr b hb0
  have hgcd:=pow_gcd hr2 q (r - 1) hb hf
  by_cases hdv:q ∣ r - 1
  · exact hdv
  · exfalso
    have hne:(r - 1)%q≠0:=λh=>hdv (Nat.dvd_of_mod_eq_zero h)
    have hc:Nat.gcd q (r - 1)=1:=cop hq (r - 1) hne
    rw [hc,Nat.pow_one] at hgcd
    have hN1 : (N - 1) % r = r - 1 := by
      obtain ⟨c,hc⟩:=hrN
      obtain ⟨d, rfl⟩ : ∃ d, c = d + 1 := ⟨c - 1, by rcases c with _ | c; · simp at hc; omega
                                                     · rfl⟩
      have:N - 1=r*d+(r - 1):=by rw [hc,Nat.mul_add,Nat.mul_one]; omega
      rw [this,Nat.mul_add_mod,Nat.mod_eq_of_lt (by omega)]
    have hz:(b%N+(N - 1))%r=0:=by
      rw [Nat.add_mod,Nat.mod_mod_of_dvd _ hrN,hgcd,hN1]
      have:1+(r - 1)=r:=by omega
      rw [this,Nat.mod_self]
    have hdd:r ∣ 1:=by
      rw [← hg]
      exact Nat.dvd_gcd (Nat.dvd_of_mod_eq_zero hz) hrN
    have:=Nat.le_of_dvd (by omega) hdd
    omega
theorem pock {N F : Nat} (hN : 2 ≤ N) (h : ∀ r, Pr r → r ∣ N → F ∣ r - 1) (hF : N < (F + 1) * (F + 1)) : Pr N := by
  refine ⟨hN,λk h0 h1=>?_⟩
  by_cases hg:Nat.gcd k N=1
  · exact hg
  · exfalso
    have hle:Nat.gcd k N≤k:=Nat.gcd_le_left N h0
    have hpos:0<Nat.gcd k N:=Nat.gcd_pos_of_pos_left N h0
    obtain ⟨c,hc⟩:=Nat.gcd_dvd_right k N
    have hc2:2≤c:=by
      rcases c with _ | _ | c
      · omega
      · omega
      · omega
    obtain ⟨r,hr,hrd⟩:=has_prime _ (Nat.gcd k N) (Nat.le_refl _) (by omega)
    obtain ⟨s,hs,hsd⟩:=has_prime _ c (Nat.le_refl _) hc2
    have hrN:r ∣ N:=Nat.dvd_trans hrd (Nat.gcd_dvd_right k N)
    have hsN:s ∣ N:=by rw [hc]; exact Nat.dvd_trans hsd (Nat.dvd_mul_left c _)
    have hr2:=hr.1
    have hs2:=hs.1
    have l1:=Nat.le_of_dvd (by omega) (h r hr hrN)
    have l2:=Nat.le_of_dvd (by omega) (h s hs hsN)
    have m1:r≤Nat.gcd k N:=Nat.le_of_dvd hpos hrd
    have m2:s≤c:=Nat.le_of_dvd (by omega) hsd
    have:(F+1)*(F+1)≤Nat.gcd k N*c:=Nat.mul_le_mul (by omega) (by omega)
    omega
theorem small_prime {n b : Nat} (h2 : 2 ≤ n) (hb : n < b * b) (h : (List.range b).all (fun k => k < 2 || n % k != 0) = true) : Pr n := by
  refine ⟨h2,λk h0 h1=>?_⟩
  by_cases hg:Nat.gcd k n=1
  · exact hg
  · exfalso
    have hle:Nat.gcd k n≤k:=Nat.gcd_le_left n h0
    have hpos:0<Nat.gcd k n:=Nat.gcd_pos_of_pos_left n h0
    obtain ⟨c,hc⟩:=Nat.gcd_dvd_right k n
    have hc2:2≤c:=by
      rcases c with _ | _ | c
      · omega
      · omega
      · omega
    have key:∀ d,2≤d→d<b→d ∣ n→False:=by
      intro d hd hdb hdn
      have:=List.all_eq_true.1 h d (List.mem_range.2 hdb)
      have hz:=Nat.mod_eq_zero_of_dvd hdn
      simp [hz] at this
      omega
    rcases Nat.lt_or_ge (Nat.gcd k n) b with hl | hl
    · exact key _ (by omega) hl (Nat.gcd_dvd_right k n)
    · rcases Nat.lt_or_ge c b with hm | hm
      · exact key c hc2 hm ⟨Nat.gcd k n,by rw [Nat.mul_comm]; exact hc⟩
      · have:=Nat.mul_le_mul hl hm
        omega
def pm (n a:Nat):List Bool→Nat→Nat
  | [],r=>r
  | b::bs,r=>pm n a bs (if b then r*r%n*a%n else r*r%n)
def ev:List Bool→Nat→Nat
  | [],e=>e
  | b::bs,e=>ev bs (if b then 2*e+1 else 2*e)
theorem pm_eq (n a : Nat) : ∀ (bs : List Bool) (r e : Nat), r = a ^ e % n → pm n a bs r = a ^ (ev bs e) % n
  | [],_,_,h=>h
  | true::bs,r,e,h=>by
    rw [pm,ev]
    refine pm_eq n a bs _ _ ?_
    simp only [if_true]
    rw [h,Nat.pow_succ,Nat.two_mul,Nat.pow_add, ← Nat.mul_mod,Nat.mod_mul_mod]
  | false::bs,r,e,h=>by
    rw [pm,ev]
    refine pm_eq n a bs _ _ ?_
    simp only [Bool.false_eq_true,if_false]
    rw [h,Nat.two_mul,Nat.pow_add, ← Nat.mul_mod]
def bitsOf:Nat→Nat→List Bool→List Bool
  | 0,_,l=>l
  | f+1,e,l=>bitsOf f (e / 2) (decide (e%2=1)::l)
theorem ev_bitsOf : ∀ (f e : Nat) (l : List Bool), e < 2 ^ f → ev (bitsOf f e l) 0 = ev l e
  | 0,e,l,h=>by
    have:e=0:=by simp at h; exact h
    rw [this]; rfl
  | f+1,e,l,h=>by
    rw [bitsOf,ev_bitsOf f (e / 2) _ (by rw [Nat.pow_succ] at h; omega),ev]
    by_cases h1:e%2=1
    · rw [decide_eq_true h1,if_pos rfl]; congr 1; omega
    · rw [decide_eq_false h1]; simp only [Bool.false_eq_true,if_false]; congr 1; omega
theorem pow_is (f n a e:Nat) (h:e<2 ^ f) (hn:2≤n):pm n a (bitsOf f e []) 1=a ^ e%n:=by
  rw [pm_eq n a _ 1 0 (by rw [Nat.pow_zero,Nat.mod_eq_of_lt hn]),ev_bitsOf f e [] h]; rfl
theorem pock_pm (f:Nat) {N q:Nat} (a:Nat) (hf:N<2 ^ f) (hq:Pr q) (hd:q ∣ N - 1) (h1:pm N a (bitsOf f (N - 1) []) 1=1) (hg:Nat.gcd (pm N a (bitsOf f ((N - 1) / q) []) 1+(N - 1)) N=1) (hN:2≤N) (r:Nat) (hr:Pr r) (hrN:r ∣ N):q ∣ r - 1:=by
  rw [pow_is f N a _ (by omega) hN] at h1
  rw [pow_is f N a _ (Nat.lt_of_le_of_lt (Nat.div_le_self _ _) (by omega)) hN] at hg
  exact pock_one hq hd h1 hg hN r hr hrN
theorem pr_107590001:Pr 107590001:=small_prime (b:=10374) (by decide) (by decide) (by decide +kernel)
theorem pr_7240687:Pr 7240687:=small_prime (b:=2692) (by decide) (by decide) (by decide +kernel)
theorem pr_96557:Pr 96557:=small_prime (b:=312) (by decide) (by decide) (by decide +kernel)
theorem pr_r2:Pr 255515944373312847190720520512484175977:=by
  refine pock (F:=107590001*(7240687*96557)) (by decide) (λr hr hrN=>?_) (by decide)
  have h0:=pock_pm 128 2 (by decide) pr_107590001 (by decide) (by decide +kernel) (by decide +kernel) (by decide) r hr hrN
  have h1:=pock_pm 128 2 (by decide) pr_7240687 (by decide) (by decide +kernel) (by decide +kernel) (by decide) r hr hrN
  have h2:=pock_pm 128 2 (by decide) pr_96557 (by decide) (by decide +kernel) (by decide +kernel) (by decide) r hr hrN
  exact Nat.Coprime.mul_dvd_of_dvd_of_dvd (by decide) h0 (Nat.Coprime.mul_dvd_of_dvd_of_dvd (by decide) h1 h2)
theorem pr_q:Pr 205115282021455665897114700593932402728804164701536103180137503955397371 :=
  pock (F:=255515944373312847190720520512484175977) (by decide) (λr hr hrN=>pock_pm 237 2 (by decide) pr_r2 (by decide) (by decide +kernel) (by decide +kernel) (by decide) r hr hrN) (by decide)
theorem pr_p:Pr 115792089237316195423570985008687907853269984665640564039457584007908834671663 :=
  pock (F:=205115282021455665897114700593932402728804164701536103180137503955397371) (by decide) (λr hr hrN=>pock_pm 256 2 (by decide) pr_q (by decide) (by decide +kernel) (by decide +kernel) (by decide) r hr hrN) (by decide)
end Nt
end
section
section
open Go.RowKit Go.Lib
def sqI (x:Nat):Nat→Nat
 | 0=>x
 | n+1=>mulP (sqI x n) (sqI x n)
theorem sqI_lt (x n:Nat) (hx:x<(2^256)):sqI x n<(2^256):=by
 cases n with
 | zero=>exact hx
 | succ n=>exact mulP_lt _ _
theorem mulP_mod (x y:Nat):mulP x y%pM=x*y%pM:=by unfold mulP; rw [Nat.mod_mod]
theorem mul_pow {a x y i j:Nat} (hx:x%pM=a ^ i%pM) (hy:y%pM=a ^ j%pM):mulP x y%pM=a ^ (i+j)%pM:=by
 rw [mulP_mod,Nat.mul_mod,hx,hy, ← Nat.mul_mod, ← Nat.pow_add]
theorem sqI_pow {a x i:Nat} (hx:x%pM=a ^ i%pM):∀ n,sqI x n%pM=a ^ (i*2 ^ n)%pM
 | 0=>by rw [Nat.pow_zero,Nat.mul_one]; exact hx
 | n+1=>by
  rw [sqI,mul_pow (sqI_pow hx n) (sqI_pow hx n),Nat.pow_succ]
  congr 2
  rw [← Nat.mul_assoc,Nat.mul_two]
def jn (x d y:Nat):Nat:=mulP (sqI x d) y
theorem jn_lt (x d y:Nat):jn x d y<(2^256):=mulP_lt _ _
theorem jn_pow {a x y i j d:Nat} (hx:x%pM=a ^ i%pM) (hy:y%pM=a ^ j%pM):jn x d y%pM=a ^ (i*2 ^ d+j)%pM:=mul_pow (sqI_pow hx d) hy
set_option maxHeartbeats 1000000 in
set_option maxRecDepth 100000 in
theorem square_any (w:World) (x d:Nat) (hx:x<(2^256)) (hd:d≤1000):Calls Tryz.prog 70 #[fv x,.int .i64 (d:Int)] w λe w'=>e=.returned (fv (sqI x d))∧Below w.heap.size w w':=by
 obtain ⟨x0,x1,x2,x3,fx⟩:=words_fv x hx
 have FX:=Lib.hid fx
 have HX:=Lib.hid hx
 have HD:=Lib.hid hd
 have hd':(d:Int)≤1000:=by omega
 rw [fx]
 clear fx hx hd
 go_enter Tryz.func70,Tryz.ntmps70
 go_wp2_with fail
 go_loopw [6] (λi wr=>∃ k v:Nat,k≤d∧i=.int .i64 (k:Int)∧Hid (v=sqI x k)∧Below w.heap.size w wr∧Blk wr w.heap.size 64 (fcs v)∧Blk wr (w.heap.size+1) 64 #[.int .u64 0,.int .u64 0,.int .u64 0,.int .u64 0]) (λi _=>d - (RowKit.intOf i).toNat)
 case atStart=>exact ⟨0,x,Nat.zero_le _,rfl,Lib.hid rfl,below_alloc2 w _ _,Blk.eq_ ((Blk.new w _ _).alloc _) (fcs_words FX.out).symm,blk_new2 w _ _ _⟩
 case round =>
  obtain ⟨k,v,hk,rfl,HV,hb,hB,hR⟩:=hrel
  have HL:Hid (v<(2^256)):=Lib.hid (by rw [HV.out]; exact sqI_lt x k HX.out)
  by_cases hlt:k<d
  ·have p1:(k:Int)<(d:Int):=by omega
   go_wp2_with (first | ((with_reducible refine here_load (d:=some 8) ?_); refine wpList_load_fv rfl _ _ rfl (w.heap.size) rfl (v) _ _ _ (hB) (fv_fcs v) Tryz.underlying64 rfl (by kernel_rfl) ?_) | ((with_reducible refine here_load (d:=some 9) ?_); refine wpList_load_fv rfl _ _ rfl (w.heap.size) rfl (v) _ _ _ (hB) (fv_fcs v) Tryz.underlying64 rfl (by kernel_rfl) ?_))
   refine (mulF_any _ v v HL.out HL.out).mono ?_
   rintro e w1 ⟨rfl,hb1⟩
   obtain ⟨z,hz⟩:∃ z,z=mulP v v:=⟨_,rfl⟩
   have HZ:=Lib.hid hz
   rw [← hz]
   clear hz
   have hB1:=Gr.blk hb1 hB
   have hR1:=Gr.blk hb1 hR
   have hbb:=Below.gr hb hb1
   clear hb hb1 hB hR
   go_wp2_with (first | ((with_reducible refine here_store ?_); refine wpList_store_blk rfl _ _ _ rfl (w.heap.size) (fcs (z)) rfl rfl _ _ (hB1) (by kernel_rfl) (by rfl) (fcs_one _) ?_; intro w2 hL2 hB2 hK2; have hR2:=hK2 _ (by omega) _ _ hR1))
   go_roundw
   case rel=>exact ⟨k+1,z,by omega,by simp <;> rfl,Lib.hid (by rw [HZ.out,HV.out]; rfl),hbb.trans (hB2 _ (by omega)),hL2,hR2⟩
   case measure=>simp [RowKit.intOf]; omega
  ·have p1:¬ (k:Int)<(d:Int):=by omega
   obtain rfl:k=d:=by omega
   go_wp2_with (first | ((with_reducible refine here_load (d:=some 12) ?_); refine wpList_load_fv rfl _ _ rfl (w.heap.size) rfl (v) _ _ _ (hB) (fv_fcs v) Tryz.underlying64 rfl (by kernel_rfl) ?_) | ((with_reducible refine here_store ?_); refine wpList_store_blk rfl _ _ _ rfl (w.heap.size+1) (fcs (v)) rfl rfl _ _ (hR) (by kernel_rfl) (by rfl) (fcs_one _) ?_; intro w2 hL2 hB2 hK2))
   exact bodyPost_ret (results_cell_row rfl _ _ (w.heap.size+1) _ _ (0,0) _ rfl hL2 Tryz.underlying64 rfl (by kernel_rfl)) rfl ⟨by rw [HV.out]; rfl,hb.trans (hB2 _ (by omega))⟩
end
end
section
section
open Go.RowKit Go.Lib
theorem res_three_cells {P:Program} {fn:Func} {p q r:Tmp} {ty:TypeId} (h:fn.results=#[.cell p ty,.cell q ty,.cell r ty]) (tmps:Array Value) (w:World) (g g2 g3:Nat) (t t2 t3:TypeId) (cs cs2 cs3:Array Value) (d:TypeDesc)
  (hp:tmps.getD p undef=.pointer (some ⟨g,0,none⟩)) (hg:Blk w g t cs) (hq:tmps.getD q undef=.pointer (some ⟨g2,0,none⟩)) (hg2:Blk w g2 t2 cs2) (hr:tmps.getD r undef=.pointer (some ⟨g3,0,none⟩)) (hg3:Blk w g3 t3 cs3)
  (hu:P.underlying ty=some d) (hd:(match d with | .struct _ | .array _ _=>true | _=>false)=true) (hi:(P.info? ty).map (·.size)=some cs.size) (hi2:(P.info? ty).map (·.size)=some cs2.size) (hi3:(P.info? ty).map (·.size)=some cs3.size) :
  (results fn tmps).run P w=.ok (.tuple #[.agg cs,.agg cs2,.agg cs3]) w:=by
 have hp':tmps[p]?.getD undef=.pointer (some ⟨g,0,none⟩):=by simpa using hp
 have hq':tmps[q]?.getD undef=.pointer (some ⟨g2,0,none⟩):=by simpa using hq
 have hr':tmps[r]?.getD undef=.pointer (some ⟨g3,0,none⟩):=by simpa using hr
 simp [results,h,hp',hq',hr',asAddr,run_loadVar_row w g t ty cs (0,0) d hg hu hd hi,run_loadVar_row w g2 t2 ty cs2 (0,0) d hg2 hu hd hi2,run_loadVar_row w g3 t3 ty cs3 (0,0) d hg3 hu hd hi3,Result.andThen]
set_option maxHeartbeats 1000000 in
set_option maxRecDepth 100000 in
theorem join_any (w:World) (x d y:Nat) (hx:x<(2^256)) (hy:y<(2^256)) (hd:d≤1000):Calls Tryz.prog 69 #[fv x,.int .i64 (d:Int),fv y] w λe w'=>e=.returned (fv (jn x d y))∧Below w.heap.size w w':=by
 obtain ⟨s,hs⟩:∃ s,s=sqI x d:=⟨_,rfl⟩
 obtain ⟨z,hz⟩:∃ z,z=mulP s y:=⟨_,rfl⟩
 have hsl:s<(2^256):=by rw [hs]; exact sqI_lt x d hx
 have HZ:=Lib.hid (And.intro hs (And.intro hz (And.intro hsl (And.intro hx (And.intro hy hd)))))
 rw [show jn x d y=z by rw [hz,hs]; rfl]
 obtain ⟨x0,x1,x2,x3,fx⟩:=words_fv x hx
 obtain ⟨y0,y1,y2,y3,fy⟩:=words_fv y hy
 have FX:=Lib.hid fx
 have FY:=Lib.hid fy
 rw [fx,fy]
 clear fx fy hx hy hs hz hsl hd
 go_enter Tryz.func69,Tryz.ntmps69
 go_wp2
 refine wp_region_G (λj=>j == 5) (by kernel_rfl) ?_
 try simp only [Act.put]
 refine tkw 0 rfl (YieldsG.loadF (by rfl) _ _ rfl (w.heap.size) rfl (x) _ _ (((Blk.new w _ _).alloc _).alloc _) (FX.out) Tryz.underlying64 rfl (by kernel_rfl)) ?_
 try simp only [Act.put,aA,aZ,aS]
 refine tk 1 rfl ?_
 try simp only [Act.put,aA,aZ,aS]
 refine tkw 2 rfl (YieldsG.call (v:=fv s) (by rfl) 70 _ (λw9=>by go_simp; try (first | with_reducible rfl | rfl)) (λw9 h9=>HZ.out.1 ▸ square_any w9 x d HZ.out.2.2.2.1 HZ.out.2.2.2.2.2)) ?_
 try simp only [Act.put,aA,aZ,aS]
 refine tkw 3 rfl (YieldsG.loadF (by rfl) _ _ rfl (w.heap.size+1) rfl (y) _ _ ((blk_new2 w _ _ _).alloc _) (FY.out) Tryz.underlying64 rfl (by kernel_rfl)) ?_
 try simp only [Act.put,aA,aZ,aS]
 refine tkw 4 rfl (YieldsG.call (v:=fv z) (by rfl) 71 _ (λw9=>by go_simp; try (first | with_reducible rfl | rfl)) (λw9 h9=>HZ.out.2.1 ▸ mulF_any w9 s y HZ.out.2.2.1 HZ.out.2.2.2.2.1)) ?_
 try simp only [Act.put,aA,aZ,aS]
 refine wpAnyG_store 5 rfl (by kernel_rfl) (by rfl) _ _ _ rfl (w.heap.size+2) (fcs (z)) rfl rfl _ _ (blk_new3 w _ _ _ _) (by kernel_rfl) (by rfl) (fcs_one _) rfl (λw6 h6 w7 hB7 hL7=>?_)
 try simp only [Act.put]
 refine wpAnyG_done (by kernel_rfl) (λw8 h8=>?_)
 have hfin:=Gr.blk h8 hL7
 have hb9:=(Below.gr (below_alloc3 w _ _ _) h6).trans ((hB7 _ (by omega)).trans (Below.mono h8 (by have:=hL7.lt; omega)))
 go_wp2
 exact bodyPost_ret (results_cell_row rfl _ _ (w.heap.size+2) _ _ (0,0) _ rfl hfin Tryz.underlying64 rfl (by kernel_rfl)) rfl ⟨rfl,hb9⟩
theorem join_at (w:World) (x d y z:Nat) (di:Int) (hdi:di=(d:Int)) (hz:z=jn x d y) (hx:x<(2^256)) (hy:y<(2^256)) (hd:d≤1000):Calls Tryz.prog 69 #[fv x,.int .i64 di,fv y] w λe w'=>e=.returned (fv z)∧Below w.heap.size w w':=by
 subst hdi hz
 exact join_any w x d y hx hy hd
theorem pow_self (x:Nat):x%pM=x ^ 1%pM:=by rw [Nat.pow_one]
def rTwo (x:Nat):Nat:=jn x 1 x
theorem rTwo_lt (x:Nat):rTwo x<(2^256):=jn_lt _ _ _
def eTwo:Nat:=1*2 ^ 1+1
theorem rTwo_pow (x:Nat):rTwo x%pM=x ^ eTwo%pM:=by
 unfold rTwo eTwo
 exact jn_pow (pow_self x) (pow_self x)
def rThree (x:Nat):Nat:=jn (rTwo x) 1 x
theorem rThree_lt (x:Nat):rThree x<(2^256):=jn_lt _ _ _
def eThree:Nat:=eTwo*2 ^ 1+1
theorem rThree_pow (x:Nat):rThree x%pM=x ^ eThree%pM:=by
 unfold rThree eThree
 exact jn_pow (rTwo_pow x) (pow_self x)
def rSix (x:Nat):Nat:=jn (rThree x) 3 (rThree x)
theorem rSix_lt (x:Nat):rSix x<(2^256):=jn_lt _ _ _
def eSix:Nat:=eThree*2 ^ 3+eThree
theorem rSix_pow (x:Nat):rSix x%pM=x ^ eSix%pM:=by
 unfold rSix eSix
 exact jn_pow (rThree_pow x) (rThree_pow x)
def rNine (x:Nat):Nat:=jn (rSix x) 3 (rThree x)
theorem rNine_lt (x:Nat):rNine x<(2^256):=jn_lt _ _ _
def eNine:Nat:=eSix*2 ^ 3+eThree
theorem rNine_pow (x:Nat):rNine x%pM=x ^ eNine%pM:=by
 unfold rNine eNine
 exact jn_pow (rSix_pow x) (rThree_pow x)
def rEleven (x:Nat):Nat:=jn (rNine x) 2 (rTwo x)
theorem rEleven_lt (x:Nat):rEleven x<(2^256):=jn_lt _ _ _
def eEleven:Nat:=eNine*2 ^ 2+eTwo
theorem rEleven_pow (x:Nat):rEleven x%pM=x ^ eEleven%pM:=by
 unfold rEleven eEleven
 exact jn_pow (rNine_pow x) (rTwo_pow x)
def rSome (x:Nat):Nat:=jn (rEleven x) 11 (rEleven x)
theorem rSome_lt (x:Nat):rSome x<(2^256):=jn_lt _ _ _
def eSome:Nat:=eEleven*2 ^ 11+eEleven
theorem rSome_pow (x:Nat):rSome x%pM=x ^ eSome%pM:=by
 unfold rSome eSome
 exact jn_pow (rEleven_pow x) (rEleven_pow x)
def rDbl (x:Nat):Nat:=jn (rSome x) 22 (rSome x)
theorem rDbl_lt (x:Nat):rDbl x<(2^256):=jn_lt _ _ _
def eDbl:Nat:=eSome*2 ^ 22+eSome
theorem rDbl_pow (x:Nat):rDbl x%pM=x ^ eDbl%pM:=by
 unfold rDbl eDbl
 exact jn_pow (rSome_pow x) (rSome_pow x)
def rM1 (x:Nat):Nat:=jn (rDbl x) 44 (rDbl x)
theorem rM1_lt (x:Nat):rM1 x<(2^256):=jn_lt _ _ _
def eM1:Nat:=eDbl*2 ^ 44+eDbl
theorem rM1_pow (x:Nat):rM1 x%pM=x ^ eM1%pM:=by
 unfold rM1 eM1
 exact jn_pow (rDbl_pow x) (rDbl_pow x)
def rM2 (x:Nat):Nat:=jn (rM1 x) 88 (rM1 x)
theorem rM2_lt (x:Nat):rM2 x<(2^256):=jn_lt _ _ _
def eM2:Nat:=eM1*2 ^ 88+eM1
theorem rM2_pow (x:Nat):rM2 x%pM=x ^ eM2%pM:=by
 unfold rM2 eM2
 exact jn_pow (rM1_pow x) (rM1_pow x)
def rM3 (x:Nat):Nat:=jn (rM2 x) 44 (rDbl x)
theorem rM3_lt (x:Nat):rM3 x<(2^256):=jn_lt _ _ _
def eM3:Nat:=eM2*2 ^ 44+eDbl
theorem rM3_pow (x:Nat):rM3 x%pM=x ^ eM3%pM:=by
 unfold rM3 eM3
 exact jn_pow (rM2_pow x) (rDbl_pow x)
def rMost (x:Nat):Nat:=jn (rM3 x) 3 (rThree x)
theorem rMost_lt (x:Nat):rMost x<(2^256):=jn_lt _ _ _
def eMost:Nat:=eM3*2 ^ 3+eThree
theorem rMost_pow (x:Nat):rMost x%pM=x ^ eMost%pM:=by
 unfold rMost eMost
 exact jn_pow (rM3_pow x) (rThree_pow x)
set_option maxHeartbeats 4000000 in
set_option maxRecDepth 100000 in
theorem runs_any (w:World) (x:Nat) (hx:x<(2^256)):Calls Tryz.prog 68 #[fv x] w λe w'=>e=.returned (.tuple #[fv (rTwo x),fv (rSome x),fv (rMost x)])∧Below w.heap.size w w':=by
 obtain ⟨ztwo,hztwo⟩:∃ z,z=rTwo x:=⟨_,rfl⟩
 obtain ⟨zthree,hzthree⟩:∃ z,z=rThree x:=⟨_,rfl⟩
 obtain ⟨zsix,hzsix⟩:∃ z,z=rSix x:=⟨_,rfl⟩
 obtain ⟨znine,hznine⟩:∃ z,z=rNine x:=⟨_,rfl⟩
 obtain ⟨zeleven,hzeleven⟩:∃ z,z=rEleven x:=⟨_,rfl⟩
 obtain ⟨zsome,hzsome⟩:∃ z,z=rSome x:=⟨_,rfl⟩
 obtain ⟨zdbl,hzdbl⟩:∃ z,z=rDbl x:=⟨_,rfl⟩
 obtain ⟨zm1,hzm1⟩:∃ z,z=rM1 x:=⟨_,rfl⟩
 obtain ⟨zm2,hzm2⟩:∃ z,z=rM2 x:=⟨_,rfl⟩
 obtain ⟨zm3,hzm3⟩:∃ z,z=rM3 x:=⟨_,rfl⟩
 obtain ⟨zmost,hzmost⟩:∃ z,z=rMost x:=⟨_,rfl⟩
 rw [← hztwo, ← hzsome, ← hzmost]
 have HX:=Lib.hid hx
 have HZtwo:Hid (ztwo=jn x 1 x∧ztwo<(2^256)):=Lib.hid ⟨by rw [hztwo]; rfl,by rw [hztwo]; exact rTwo_lt x⟩
 have HZthree:Hid (zthree=jn ztwo 1 x∧zthree<(2^256)):=Lib.hid ⟨by rw [hzthree,hztwo]; rfl,by rw [hzthree]; exact rThree_lt x⟩
 have HZsix:Hid (zsix=jn zthree 3 zthree∧zsix<(2^256)):=Lib.hid ⟨by rw [hzsix,hzthree]; rfl,by rw [hzsix]; exact rSix_lt x⟩
 have HZnine:Hid (znine=jn zsix 3 zthree∧znine<(2^256)):=Lib.hid ⟨by rw [hznine,hzsix,hzthree]; rfl,by rw [hznine]; exact rNine_lt x⟩
 have HZeleven:Hid (zeleven=jn znine 2 ztwo∧zeleven<(2^256)):=Lib.hid ⟨by rw [hzeleven,hznine,hztwo]; rfl,by rw [hzeleven]; exact rEleven_lt x⟩
 have HZsome:Hid (zsome=jn zeleven 11 zeleven∧zsome<(2^256)):=Lib.hid ⟨by rw [hzsome,hzeleven]; rfl,by rw [hzsome]; exact rSome_lt x⟩
 have HZdbl:Hid (zdbl=jn zsome 22 zsome∧zdbl<(2^256)):=Lib.hid ⟨by rw [hzdbl,hzsome]; rfl,by rw [hzdbl]; exact rDbl_lt x⟩
 have HZm1:Hid (zm1=jn zdbl 44 zdbl∧zm1<(2^256)):=Lib.hid ⟨by rw [hzm1,hzdbl]; rfl,by rw [hzm1]; exact rM1_lt x⟩
 have HZm2:Hid (zm2=jn zm1 88 zm1∧zm2<(2^256)):=Lib.hid ⟨by rw [hzm2,hzm1]; rfl,by rw [hzm2]; exact rM2_lt x⟩
 have HZm3:Hid (zm3=jn zm2 44 zdbl∧zm3<(2^256)):=Lib.hid ⟨by rw [hzm3,hzm2,hzdbl]; rfl,by rw [hzm3]; exact rM3_lt x⟩
 have HZmost:Hid (zmost=jn zm3 3 zthree∧zmost<(2^256)):=Lib.hid ⟨by rw [hzmost,hzm3,hzthree]; rfl,by rw [hzmost]; exact rMost_lt x⟩
 clear hztwo hzthree hzsix hznine hzeleven hzsome hzdbl hzm1 hzm2 hzm3 hzmost
 obtain ⟨x0,x1,x2,x3,fx⟩:=words_fv x hx
 have FX:=Lib.hid fx
 rw [fx]
 clear fx hx
 go_enter Tryz.func68,Tryz.ntmps68
 go_wp2_with (first | ((with_reducible refine here_load (d:=some 10) ?_); refine wpList_load_fv rfl _ _ rfl (w.heap.size) rfl (x) _ _ _ (Blk.eq_ ((((Blk.new w _ _).alloc _).alloc _).alloc _) (fcs_words FX.out).symm) (fv_fcs (x)) Tryz.underlying64 rfl (by kernel_rfl) ?_) | ((with_reducible refine here_load (d:=some 11) ?_); refine wpList_load_fv rfl _ _ rfl (w.heap.size) rfl (x) _ _ _ (Blk.eq_ ((((Blk.new w _ _).alloc _).alloc _).alloc _) (fcs_words FX.out).symm) (fv_fcs (x)) Tryz.underlying64 rfl (by kernel_rfl) ?_))
 refine (join_at _ x 1 x ztwo 1 rfl HZtwo.out.1 HX.out HX.out (by omega)).mono ?_
 rintro e w10 ⟨rfl,hb⟩
 have B0_a:Blk w10 (w.heap.size) 64 _:=Gr.blk hb (Blk.eq_ ((((Blk.new w _ _).alloc _).alloc _).alloc _) (fcs_words FX.out).symm)
 have l0_a:=B0_a.lt
 have B0_t2:Blk w10 (w.heap.size+1) 64 _:=Gr.blk hb (((blk_new2 w _ _ _).alloc _).alloc _)
 have l0_t2:=B0_t2.lt
 have B0_t3:Blk w10 (w.heap.size+2) 64 _:=Gr.blk hb ((blk_new3 w _ _ _ _).alloc _)
 have l0_t3:=B0_t3.lt
 have B0_t4:Blk w10 (w.heap.size+3) 64 _:=Gr.blk hb (blk_new4 w _ _ _ _ _)
 have l0_t4:=B0_t4.lt
 have hB0:=Below.gr ((below_alloc3 w _ _ _).alloc (by simp <;> omega) _) hb
 have sz0:=hB0.size
 clear hb
 go_wp2_with (first | ((with_reducible refine here_store ?_); refine wpList_store_blk rfl _ _ _ rfl (w.heap.size+1) (fcs (ztwo)) rfl rfl _ _ (B0_t2) (by kernel_rfl) (by rfl) (fcs_one _) ?_; intro v11 hL1 hq1 hK1; have C1_a:=hK1 _ (by omega) _ _ (B0_a); have C1_t3:=hK1 _ (by omega) _ _ (B0_t3); have C1_t4:=hK1 _ (by omega) _ _ (B0_t4); have hC1:=(hB0).trans (hq1 _ (by omega))) | ((with_reducible refine here_load (d:=some 13) ?_); refine wpList_load_fv rfl _ _ rfl (w.heap.size+1) rfl (ztwo) _ _ _ (hL1) (fv_fcs (ztwo)) Tryz.underlying64 rfl (by kernel_rfl) ?_) | ((with_reducible refine here_load (d:=some 14) ?_); refine wpList_load_fv rfl _ _ rfl (w.heap.size) rfl (x) _ _ _ (C1_a) (fv_fcs (x)) Tryz.underlying64 rfl (by kernel_rfl) ?_))
 refine (join_at _ ztwo 1 x zthree 1 rfl HZthree.out.1 HZtwo.out.2 HX.out (by omega)).mono ?_
 rintro e w11 ⟨rfl,hb⟩
 have B1_a:Blk w11 (w.heap.size) 64 _:=Gr.blk hb (C1_a)
 have l1_a:=B1_a.lt
 have B1_t3:Blk w11 (w.heap.size+2) 64 _:=Gr.blk hb (C1_t3)
 have l1_t3:=B1_t3.lt
 have B1_t4:Blk w11 (w.heap.size+3) 64 _:=Gr.blk hb (C1_t4)
 have l1_t4:=B1_t4.lt
 have B1_t2:Blk w11 (w.heap.size+1) 64 _:=Gr.blk hb (hL1)
 have l1_t2:=B1_t2.lt
 have hB1:=Below.gr (hC1) hb
 have sz1:=hB1.size
 clear hb
 go_wp2_with (first | ((with_reducible refine here_store ?_); refine wpList_store_blk rfl _ _ _ rfl (w11.heap.size) (fcs (zthree)) rfl rfl _ _ (Blk.new w11 _ _) (by kernel_rfl) (by rfl) (fcs_one _) ?_; intro v12 hL2 hq2 hK2; have C2_a:=hK2 _ (by omega) _ _ ((B1_a).alloc _); have C2_t3:=hK2 _ (by omega) _ _ ((B1_t3).alloc _); have C2_t4:=hK2 _ (by omega) _ _ ((B1_t4).alloc _); have C2_t2:=hK2 _ (by omega) _ _ ((B1_t2).alloc _); have hC2:=(((hB1).alloc (by omega) _)).trans (hq2 _ (by omega))) | ((with_reducible refine here_load (d:=some 16) ?_); refine wpList_load_fv rfl _ _ rfl (w11.heap.size) rfl (zthree) _ _ _ (hL2) (fv_fcs (zthree)) Tryz.underlying64 rfl (by kernel_rfl) ?_) | ((with_reducible refine here_load (d:=some 17) ?_); refine wpList_load_fv rfl _ _ rfl (w11.heap.size) rfl (zthree) _ _ _ (hL2) (fv_fcs (zthree)) Tryz.underlying64 rfl (by kernel_rfl) ?_))
 refine (join_at _ zthree 3 zthree zsix 3 rfl HZsix.out.1 HZthree.out.2 HZthree.out.2 (by omega)).mono ?_
 rintro e w12 ⟨rfl,hb⟩
 have B2_a:Blk w12 (w.heap.size) 64 _:=Gr.blk hb (C2_a)
 have l2_a:=B2_a.lt
 have B2_t3:Blk w12 (w.heap.size+2) 64 _:=Gr.blk hb (C2_t3)
 have l2_t3:=B2_t3.lt
 have B2_t4:Blk w12 (w.heap.size+3) 64 _:=Gr.blk hb (C2_t4)
 have l2_t4:=B2_t4.lt
 have B2_t2:Blk w12 (w.heap.size+1) 64 _:=Gr.blk hb (C2_t2)
 have l2_t2:=B2_t2.lt
 have B2_three:Blk w12 (w11.heap.size) 64 _:=Gr.blk hb (hL2)
 have l2_three:=B2_three.lt
 have hB2:=Below.gr (hC2) hb
 have sz2:=hB2.size
 clear hb
 go_wp2_with (first | ((with_reducible refine here_store ?_); refine wpList_store_blk rfl _ _ _ rfl (w12.heap.size) (fcs (zsix)) rfl rfl _ _ (Blk.new w12 _ _) (by kernel_rfl) (by rfl) (fcs_one _) ?_; intro v13 hL3 hq3 hK3; have C3_a:=hK3 _ (by omega) _ _ ((B2_a).alloc _); have C3_t3:=hK3 _ (by omega) _ _ ((B2_t3).alloc _); have C3_t4:=hK3 _ (by omega) _ _ ((B2_t4).alloc _); have C3_t2:=hK3 _ (by omega) _ _ ((B2_t2).alloc _); have C3_three:=hK3 _ (by omega) _ _ ((B2_three).alloc _); have hC3:=(((hB2).alloc (by omega) _)).trans (hq3 _ (by omega))) | ((with_reducible refine here_load (d:=some 19) ?_); refine wpList_load_fv rfl _ _ rfl (w12.heap.size) rfl (zsix) _ _ _ (hL3) (fv_fcs (zsix)) Tryz.underlying64 rfl (by kernel_rfl) ?_) | ((with_reducible refine here_load (d:=some 20) ?_); refine wpList_load_fv rfl _ _ rfl (w11.heap.size) rfl (zthree) _ _ _ (C3_three) (fv_fcs (zthree)) Tryz.underlying64 rfl (by kernel_rfl) ?_))
 refine (join_at _ zsix 3 zthree znine 3 rfl HZnine.out.1 HZsix.out.2 HZthree.out.2 (by omega)).mono ?_
 rintro e w13 ⟨rfl,hb⟩
 have B3_a:Blk w13 (w.heap.size) 64 _:=Gr.blk hb (C3_a)
 have l3_a:=B3_a.lt
 have B3_t3:Blk w13 (w.heap.size+2) 64 _:=Gr.blk hb (C3_t3)
 have l3_t3:=B3_t3.lt
 have B3_t4:Blk w13 (w.heap.size+3) 64 _:=Gr.blk hb (C3_t4)
 have l3_t4:=B3_t4.lt
 have B3_t2:Blk w13 (w.heap.size+1) 64 _:=Gr.blk hb (C3_t2)
 have l3_t2:=B3_t2.lt
 have B3_three:Blk w13 (w11.heap.size) 64 _:=Gr.blk hb (C3_three)
 have l3_three:=B3_three.lt
 have B3_six:Blk w13 (w12.heap.size) 64 _:=Gr.blk hb (hL3)
 have l3_six:=B3_six.lt
 have hB3:=Below.gr (hC3) hb
 have sz3:=hB3.size
 clear hb
 go_wp2_with (first | ((with_reducible refine here_store ?_); refine wpList_store_blk rfl _ _ _ rfl (w13.heap.size) (fcs (znine)) rfl rfl _ _ (Blk.new w13 _ _) (by kernel_rfl) (by rfl) (fcs_one _) ?_; intro v14 hL4 hq4 hK4; have C4_a:=hK4 _ (by omega) _ _ ((B3_a).alloc _); have C4_t3:=hK4 _ (by omega) _ _ ((B3_t3).alloc _); have C4_t4:=hK4 _ (by omega) _ _ ((B3_t4).alloc _); have C4_t2:=hK4 _ (by omega) _ _ ((B3_t2).alloc _); have C4_three:=hK4 _ (by omega) _ _ ((B3_three).alloc _); have C4_six:=hK4 _ (by omega) _ _ ((B3_six).alloc _); have hC4:=(((hB3).alloc (by omega) _)).trans (hq4 _ (by omega))) | ((with_reducible refine here_load (d:=some 22) ?_); refine wpList_load_fv rfl _ _ rfl (w13.heap.size) rfl (znine) _ _ _ (hL4) (fv_fcs (znine)) Tryz.underlying64 rfl (by kernel_rfl) ?_) | ((with_reducible refine here_load (d:=some 23) ?_); refine wpList_load_fv rfl _ _ rfl (w.heap.size+1) rfl (ztwo) _ _ _ (C4_t2) (fv_fcs (ztwo)) Tryz.underlying64 rfl (by kernel_rfl) ?_))
 refine (join_at _ znine 2 ztwo zeleven 2 rfl HZeleven.out.1 HZnine.out.2 HZtwo.out.2 (by omega)).mono ?_
 rintro e w14 ⟨rfl,hb⟩
 have B4_a:Blk w14 (w.heap.size) 64 _:=Gr.blk hb (C4_a)
 have l4_a:=B4_a.lt
 have B4_t3:Blk w14 (w.heap.size+2) 64 _:=Gr.blk hb (C4_t3)
 have l4_t3:=B4_t3.lt
 have B4_t4:Blk w14 (w.heap.size+3) 64 _:=Gr.blk hb (C4_t4)
 have l4_t4:=B4_t4.lt
 have B4_t2:Blk w14 (w.heap.size+1) 64 _:=Gr.blk hb (C4_t2)
 have l4_t2:=B4_t2.lt
 have B4_three:Blk w14 (w11.heap.size) 64 _:=Gr.blk hb (C4_three)
 have l4_three:=B4_three.lt
 have B4_six:Blk w14 (w12.heap.size) 64 _:=Gr.blk hb (C4_six)
 have l4_six:=B4_six.lt
 have B4_nine:Blk w14 (w13.heap.size) 64 _:=Gr.blk hb (hL4)
 have l4_nine:=B4_nine.lt
 have hB4:=Below.gr (hC4) hb
 have sz4:=hB4.size
 clear hb
 go_wp2_with (first | ((with_reducible refine here_store ?_); refine wpList_store_blk rfl _ _ _ rfl (w14.heap.size) (fcs (zeleven)) rfl rfl _ _ (Blk.new w14 _ _) (by kernel_rfl) (by rfl) (fcs_one _) ?_; intro v15 hL5 hq5 hK5; have C5_a:=hK5 _ (by omega) _ _ ((B4_a).alloc _); have C5_t3:=hK5 _ (by omega) _ _ ((B4_t3).alloc _); have C5_t4:=hK5 _ (by omega) _ _ ((B4_t4).alloc _); have C5_t2:=hK5 _ (by omega) _ _ ((B4_t2).alloc _); have C5_three:=hK5 _ (by omega) _ _ ((B4_three).alloc _); have C5_six:=hK5 _ (by omega) _ _ ((B4_six).alloc _); have C5_nine:=hK5 _ (by omega) _ _ ((B4_nine).alloc _); have hC5:=(((hB4).alloc (by omega) _)).trans (hq5 _ (by omega))) | ((with_reducible refine here_load (d:=some 25) ?_); refine wpList_load_fv rfl _ _ rfl (w14.heap.size) rfl (zeleven) _ _ _ (hL5) (fv_fcs (zeleven)) Tryz.underlying64 rfl (by kernel_rfl) ?_) | ((with_reducible refine here_load (d:=some 26) ?_); refine wpList_load_fv rfl _ _ rfl (w14.heap.size) rfl (zeleven) _ _ _ (hL5) (fv_fcs (zeleven)) Tryz.underlying64 rfl (by kernel_rfl) ?_))
 refine (join_at _ zeleven 11 zeleven zsome 11 rfl HZsome.out.1 HZeleven.out.2 HZeleven.out.2 (by omega)).mono ?_
 rintro e w15 ⟨rfl,hb⟩
 have B5_a:Blk w15 (w.heap.size) 64 _:=Gr.blk hb (C5_a)
 have l5_a:=B5_a.lt
 have B5_t3:Blk w15 (w.heap.size+2) 64 _:=Gr.blk hb (C5_t3)
 have l5_t3:=B5_t3.lt
 have B5_t4:Blk w15 (w.heap.size+3) 64 _:=Gr.blk hb (C5_t4)
 have l5_t4:=B5_t4.lt
 have B5_t2:Blk w15 (w.heap.size+1) 64 _:=Gr.blk hb (C5_t2)
 have l5_t2:=B5_t2.lt
 have B5_three:Blk w15 (w11.heap.size) 64 _:=Gr.blk hb (C5_three)
 have l5_three:=B5_three.lt
 have B5_six:Blk w15 (w12.heap.size) 64 _:=Gr.blk hb (C5_six)
 have l5_six:=B5_six.lt
 have B5_nine:Blk w15 (w13.heap.size) 64 _:=Gr.blk hb (C5_nine)
 have l5_nine:=B5_nine.lt
 have B5_eleven:Blk w15 (w14.heap.size) 64 _:=Gr.blk hb (hL5)
 have l5_eleven:=B5_eleven.lt
 have hB5:=Below.gr (hC5) hb
 have sz5:=hB5.size
 clear hb
 go_wp2_with (first | ((with_reducible refine here_store ?_); refine wpList_store_blk rfl _ _ _ rfl (w.heap.size+2) (fcs (zsome)) rfl rfl _ _ (B5_t3) (by kernel_rfl) (by rfl) (fcs_one _) ?_; intro v16 hL6 hq6 hK6; have C6_a:=hK6 _ (by omega) _ _ (B5_a); have C6_t4:=hK6 _ (by omega) _ _ (B5_t4); have C6_t2:=hK6 _ (by omega) _ _ (B5_t2); have C6_three:=hK6 _ (by omega) _ _ (B5_three); have C6_six:=hK6 _ (by omega) _ _ (B5_six); have C6_nine:=hK6 _ (by omega) _ _ (B5_nine); have C6_eleven:=hK6 _ (by omega) _ _ (B5_eleven); have hC6:=(hB5).trans (hq6 _ (by omega))) | ((with_reducible refine here_load (d:=some 28) ?_); refine wpList_load_fv rfl _ _ rfl (w.heap.size+2) rfl (zsome) _ _ _ (hL6) (fv_fcs (zsome)) Tryz.underlying64 rfl (by kernel_rfl) ?_) | ((with_reducible refine here_load (d:=some 29) ?_); refine wpList_load_fv rfl _ _ rfl (w.heap.size+2) rfl (zsome) _ _ _ (hL6) (fv_fcs (zsome)) Tryz.underlying64 rfl (by kernel_rfl) ?_))
 refine (join_at _ zsome 22 zsome zdbl 22 rfl HZdbl.out.1 HZsome.out.2 HZsome.out.2 (by omega)).mono ?_
 rintro e w16 ⟨rfl,hb⟩
 have B6_a:Blk w16 (w.heap.size) 64 _:=Gr.blk hb (C6_a)
 have l6_a:=B6_a.lt
 have B6_t4:Blk w16 (w.heap.size+3) 64 _:=Gr.blk hb (C6_t4)
 have l6_t4:=B6_t4.lt
 have B6_t2:Blk w16 (w.heap.size+1) 64 _:=Gr.blk hb (C6_t2)
 have l6_t2:=B6_t2.lt
 have B6_three:Blk w16 (w11.heap.size) 64 _:=Gr.blk hb (C6_three)
 have l6_three:=B6_three.lt
 have B6_six:Blk w16 (w12.heap.size) 64 _:=Gr.blk hb (C6_six)
 have l6_six:=B6_six.lt
 have B6_nine:Blk w16 (w13.heap.size) 64 _:=Gr.blk hb (C6_nine)
 have l6_nine:=B6_nine.lt
 have B6_eleven:Blk w16 (w14.heap.size) 64 _:=Gr.blk hb (C6_eleven)
 have l6_eleven:=B6_eleven.lt
 have B6_t3:Blk w16 (w.heap.size+2) 64 _:=Gr.blk hb (hL6)
 have l6_t3:=B6_t3.lt
 have hB6:=Below.gr (hC6) hb
 have sz6:=hB6.size
 clear hb
 go_wp2_with (first | ((with_reducible refine here_store ?_); refine wpList_store_blk rfl _ _ _ rfl (w16.heap.size) (fcs (zdbl)) rfl rfl _ _ (Blk.new w16 _ _) (by kernel_rfl) (by rfl) (fcs_one _) ?_; intro v17 hL7 hq7 hK7; have C7_a:=hK7 _ (by omega) _ _ ((B6_a).alloc _); have C7_t4:=hK7 _ (by omega) _ _ ((B6_t4).alloc _); have C7_t2:=hK7 _ (by omega) _ _ ((B6_t2).alloc _); have C7_three:=hK7 _ (by omega) _ _ ((B6_three).alloc _); have C7_six:=hK7 _ (by omega) _ _ ((B6_six).alloc _); have C7_nine:=hK7 _ (by omega) _ _ ((B6_nine).alloc _); have C7_eleven:=hK7 _ (by omega) _ _ ((B6_eleven).alloc _); have C7_t3:=hK7 _ (by omega) _ _ ((B6_t3).alloc _); have hC7:=(((hB6).alloc (by omega) _)).trans (hq7 _ (by omega))) | ((with_reducible refine here_load (d:=some 31) ?_); refine wpList_load_fv rfl _ _ rfl (w16.heap.size) rfl (zdbl) _ _ _ (hL7) (fv_fcs (zdbl)) Tryz.underlying64 rfl (by kernel_rfl) ?_) | ((with_reducible refine here_load (d:=some 32) ?_); refine wpList_load_fv rfl _ _ rfl (w16.heap.size) rfl (zdbl) _ _ _ (hL7) (fv_fcs (zdbl)) Tryz.underlying64 rfl (by kernel_rfl) ?_))
 refine (join_at _ zdbl 44 zdbl zm1 44 rfl HZm1.out.1 HZdbl.out.2 HZdbl.out.2 (by omega)).mono ?_
 rintro e w17 ⟨rfl,hb⟩
 have B7_a:Blk w17 (w.heap.size) 64 _:=Gr.blk hb (C7_a)
 have l7_a:=B7_a.lt
 have B7_t4:Blk w17 (w.heap.size+3) 64 _:=Gr.blk hb (C7_t4)
 have l7_t4:=B7_t4.lt
 have B7_t2:Blk w17 (w.heap.size+1) 64 _:=Gr.blk hb (C7_t2)
 have l7_t2:=B7_t2.lt
 have B7_three:Blk w17 (w11.heap.size) 64 _:=Gr.blk hb (C7_three)
 have l7_three:=B7_three.lt
 have B7_six:Blk w17 (w12.heap.size) 64 _:=Gr.blk hb (C7_six)
 have l7_six:=B7_six.lt
 have B7_nine:Blk w17 (w13.heap.size) 64 _:=Gr.blk hb (C7_nine)
 have l7_nine:=B7_nine.lt
 have B7_eleven:Blk w17 (w14.heap.size) 64 _:=Gr.blk hb (C7_eleven)
 have l7_eleven:=B7_eleven.lt
 have B7_t3:Blk w17 (w.heap.size+2) 64 _:=Gr.blk hb (C7_t3)
 have l7_t3:=B7_t3.lt
 have B7_dbl:Blk w17 (w16.heap.size) 64 _:=Gr.blk hb (hL7)
 have l7_dbl:=B7_dbl.lt
 have hB7:=Below.gr (hC7) hb
 have sz7:=hB7.size
 clear hb
 go_wp2_with (first | ((with_reducible refine here_store ?_); refine wpList_store_blk rfl _ _ _ rfl (w.heap.size+3) (fcs (zm1)) rfl rfl _ _ (B7_t4) (by kernel_rfl) (by rfl) (fcs_one _) ?_; intro v18 hL8 hq8 hK8; have C8_a:=hK8 _ (by omega) _ _ (B7_a); have C8_t2:=hK8 _ (by omega) _ _ (B7_t2); have C8_three:=hK8 _ (by omega) _ _ (B7_three); have C8_six:=hK8 _ (by omega) _ _ (B7_six); have C8_nine:=hK8 _ (by omega) _ _ (B7_nine); have C8_eleven:=hK8 _ (by omega) _ _ (B7_eleven); have C8_t3:=hK8 _ (by omega) _ _ (B7_t3); have C8_dbl:=hK8 _ (by omega) _ _ (B7_dbl); have hC8:=(hB7).trans (hq8 _ (by omega))) | ((with_reducible refine here_load (d:=some 34) ?_); refine wpList_load_fv rfl _ _ rfl (w.heap.size+3) rfl (zm1) _ _ _ (hL8) (fv_fcs (zm1)) Tryz.underlying64 rfl (by kernel_rfl) ?_) | ((with_reducible refine here_load (d:=some 35) ?_); refine wpList_load_fv rfl _ _ rfl (w.heap.size+3) rfl (zm1) _ _ _ (hL8) (fv_fcs (zm1)) Tryz.underlying64 rfl (by kernel_rfl) ?_))
 refine (join_at _ zm1 88 zm1 zm2 88 rfl HZm2.out.1 HZm1.out.2 HZm1.out.2 (by omega)).mono ?_
 rintro e w18 ⟨rfl,hb⟩
 have B8_a:Blk w18 (w.heap.size) 64 _:=Gr.blk hb (C8_a)
 have l8_a:=B8_a.lt
 have B8_t2:Blk w18 (w.heap.size+1) 64 _:=Gr.blk hb (C8_t2)
 have l8_t2:=B8_t2.lt
 have B8_three:Blk w18 (w11.heap.size) 64 _:=Gr.blk hb (C8_three)
 have l8_three:=B8_three.lt
 have B8_six:Blk w18 (w12.heap.size) 64 _:=Gr.blk hb (C8_six)
 have l8_six:=B8_six.lt
 have B8_nine:Blk w18 (w13.heap.size) 64 _:=Gr.blk hb (C8_nine)
 have l8_nine:=B8_nine.lt
 have B8_eleven:Blk w18 (w14.heap.size) 64 _:=Gr.blk hb (C8_eleven)
 have l8_eleven:=B8_eleven.lt
 have B8_t3:Blk w18 (w.heap.size+2) 64 _:=Gr.blk hb (C8_t3)
 have l8_t3:=B8_t3.lt
 have B8_dbl:Blk w18 (w16.heap.size) 64 _:=Gr.blk hb (C8_dbl)
 have l8_dbl:=B8_dbl.lt
 have B8_t4:Blk w18 (w.heap.size+3) 64 _:=Gr.blk hb (hL8)
 have l8_t4:=B8_t4.lt
 have hB8:=Below.gr (hC8) hb
 have sz8:=hB8.size
 clear hb
 go_wp2_with (first | ((with_reducible refine here_store ?_); refine wpList_store_blk rfl _ _ _ rfl (w.heap.size+3) (fcs (zm2)) rfl rfl _ _ (B8_t4) (by kernel_rfl) (by rfl) (fcs_one _) ?_; intro v19 hL9 hq9 hK9; have C9_a:=hK9 _ (by omega) _ _ (B8_a); have C9_t2:=hK9 _ (by omega) _ _ (B8_t2); have C9_three:=hK9 _ (by omega) _ _ (B8_three); have C9_six:=hK9 _ (by omega) _ _ (B8_six); have C9_nine:=hK9 _ (by omega) _ _ (B8_nine); have C9_eleven:=hK9 _ (by omega) _ _ (B8_eleven); have C9_t3:=hK9 _ (by omega) _ _ (B8_t3); have C9_dbl:=hK9 _ (by omega) _ _ (B8_dbl); have hC9:=(hB8).trans (hq9 _ (by omega))) | ((with_reducible refine here_load (d:=some 37) ?_); refine wpList_load_fv rfl _ _ rfl (w.heap.size+3) rfl (zm2) _ _ _ (hL9) (fv_fcs (zm2)) Tryz.underlying64 rfl (by kernel_rfl) ?_) | ((with_reducible refine here_load (d:=some 38) ?_); refine wpList_load_fv rfl _ _ rfl (w16.heap.size) rfl (zdbl) _ _ _ (C9_dbl) (fv_fcs (zdbl)) Tryz.underlying64 rfl (by kernel_rfl) ?_))
 refine (join_at _ zm2 44 zdbl zm3 44 rfl HZm3.out.1 HZm2.out.2 HZdbl.out.2 (by omega)).mono ?_
 rintro e w19 ⟨rfl,hb⟩
 have B9_a:Blk w19 (w.heap.size) 64 _:=Gr.blk hb (C9_a)
 have l9_a:=B9_a.lt
 have B9_t2:Blk w19 (w.heap.size+1) 64 _:=Gr.blk hb (C9_t2)
 have l9_t2:=B9_t2.lt
 have B9_three:Blk w19 (w11.heap.size) 64 _:=Gr.blk hb (C9_three)
 have l9_three:=B9_three.lt
 have B9_six:Blk w19 (w12.heap.size) 64 _:=Gr.blk hb (C9_six)
 have l9_six:=B9_six.lt
 have B9_nine:Blk w19 (w13.heap.size) 64 _:=Gr.blk hb (C9_nine)
 have l9_nine:=B9_nine.lt
 have B9_eleven:Blk w19 (w14.heap.size) 64 _:=Gr.blk hb (C9_eleven)
 have l9_eleven:=B9_eleven.lt
 have B9_t3:Blk w19 (w.heap.size+2) 64 _:=Gr.blk hb (C9_t3)
 have l9_t3:=B9_t3.lt
 have B9_dbl:Blk w19 (w16.heap.size) 64 _:=Gr.blk hb (C9_dbl)
 have l9_dbl:=B9_dbl.lt
 have B9_t4:Blk w19 (w.heap.size+3) 64 _:=Gr.blk hb (hL9)
 have l9_t4:=B9_t4.lt
 have hB9:=Below.gr (hC9) hb
 have sz9:=hB9.size
 clear hb
 go_wp2_with (first | ((with_reducible refine here_store ?_); refine wpList_store_blk rfl _ _ _ rfl (w.heap.size+3) (fcs (zm3)) rfl rfl _ _ (B9_t4) (by kernel_rfl) (by rfl) (fcs_one _) ?_; intro v20 hL10 hq10 hK10; have C10_a:=hK10 _ (by omega) _ _ (B9_a); have C10_t2:=hK10 _ (by omega) _ _ (B9_t2); have C10_three:=hK10 _ (by omega) _ _ (B9_three); have C10_six:=hK10 _ (by omega) _ _ (B9_six); have C10_nine:=hK10 _ (by omega) _ _ (B9_nine); have C10_eleven:=hK10 _ (by omega) _ _ (B9_eleven); have C10_t3:=hK10 _ (by omega) _ _ (B9_t3); have C10_dbl:=hK10 _ (by omega) _ _ (B9_dbl); have hC10:=(hB9).trans (hq10 _ (by omega))) | ((with_reducible refine here_load (d:=some 40) ?_); refine wpList_load_fv rfl _ _ rfl (w.heap.size+3) rfl (zm3) _ _ _ (hL10) (fv_fcs (zm3)) Tryz.underlying64 rfl (by kernel_rfl) ?_) | ((with_reducible refine here_load (d:=some 41) ?_); refine wpList_load_fv rfl _ _ rfl (w11.heap.size) rfl (zthree) _ _ _ (C10_three) (fv_fcs (zthree)) Tryz.underlying64 rfl (by kernel_rfl) ?_))
 refine (join_at _ zm3 3 zthree zmost 3 rfl HZmost.out.1 HZm3.out.2 HZthree.out.2 (by omega)).mono ?_
 rintro e w20 ⟨rfl,hb⟩
 have B10_a:Blk w20 (w.heap.size) 64 _:=Gr.blk hb (C10_a)
 have l10_a:=B10_a.lt
 have B10_t2:Blk w20 (w.heap.size+1) 64 _:=Gr.blk hb (C10_t2)
 have l10_t2:=B10_t2.lt
 have B10_three:Blk w20 (w11.heap.size) 64 _:=Gr.blk hb (C10_three)
 have l10_three:=B10_three.lt
 have B10_six:Blk w20 (w12.heap.size) 64 _:=Gr.blk hb (C10_six)
 have l10_six:=B10_six.lt
 have B10_nine:Blk w20 (w13.heap.size) 64 _:=Gr.blk hb (C10_nine)
 have l10_nine:=B10_nine.lt
 have B10_eleven:Blk w20 (w14.heap.size) 64 _:=Gr.blk hb (C10_eleven)
 have l10_eleven:=B10_eleven.lt
 have B10_t3:Blk w20 (w.heap.size+2) 64 _:=Gr.blk hb (C10_t3)
 have l10_t3:=B10_t3.lt
 have B10_dbl:Blk w20 (w16.heap.size) 64 _:=Gr.blk hb (C10_dbl)
 have l10_dbl:=B10_dbl.lt
 have B10_t4:Blk w20 (w.heap.size+3) 64 _:=Gr.blk hb (hL10)
 have l10_t4:=B10_t4.lt
 have hB10:=Below.gr (hC10) hb
 have sz10:=hB10.size
 clear hb
 go_wp2_with (first | ((with_reducible refine here_store ?_); refine wpList_store_blk rfl _ _ _ rfl (w.heap.size+3) (fcs (zmost)) rfl rfl _ _ (B10_t4) (by kernel_rfl) (by rfl) (fcs_one _) ?_; intro v21 hL11 hq11 hK11; have C11_a:=hK11 _ (by omega) _ _ (B10_a); have C11_t2:=hK11 _ (by omega) _ _ (B10_t2); have C11_three:=hK11 _ (by omega) _ _ (B10_three); have C11_six:=hK11 _ (by omega) _ _ (B10_six); have C11_nine:=hK11 _ (by omega) _ _ (B10_nine); have C11_eleven:=hK11 _ (by omega) _ _ (B10_eleven); have C11_t3:=hK11 _ (by omega) _ _ (B10_t3); have C11_dbl:=hK11 _ (by omega) _ _ (B10_dbl); have hC11:=(hB10).trans (hq11 _ (by omega))))
 refine wp_region_G (λ_=>false) (by kernel_rfl) ?_
 try simp only [Act.put]
 refine tkw 0 rfl (YieldsG.loadF (by rfl) _ _ rfl (w.heap.size+1) rfl (ztwo) _ _ (C11_t2) (fv_fcs _) Tryz.underlying64 rfl (by kernel_rfl)) ?_
 try simp only [Act.put,aA,aZ,aS]
 refine tkw 1 rfl (YieldsG.loadF (by rfl) _ _ rfl (w.heap.size+2) rfl (zsome) _ _ (C11_t3) (fv_fcs _) Tryz.underlying64 rfl (by kernel_rfl)) ?_
 try simp only [Act.put,aA,aZ,aS]
 refine tkw 2 rfl (YieldsG.loadF (by rfl) _ _ rfl (w.heap.size+3) rfl (zmost) _ _ (hL11) (fv_fcs _) Tryz.underlying64 rfl (by kernel_rfl)) ?_
 try simp only [Act.put,aA,aZ,aS]
 refine tkw 3 rfl (YieldsG.again (by rfl) _ _ _ rfl (w.heap.size+1) (fcs (ztwo)) rfl rfl _ (C11_t2) (by kernel_rfl) (fcs_one _)) ?_
 try simp only [Act.put]
 refine tkw 4 rfl (YieldsG.again (by rfl) _ _ _ rfl (w.heap.size+2) (fcs (zsome)) rfl rfl _ (C11_t3) (by kernel_rfl) (fcs_one _)) ?_
 try simp only [Act.put]
 refine tkw 5 rfl (YieldsG.again (by rfl) _ _ _ rfl (w.heap.size+3) (fcs (zmost)) rfl rfl _ (hL11) (by kernel_rfl) (fcs_one _)) ?_
 try simp only [Act.put]
 refine wpAnyG_done (by kernel_rfl) (λu hu=>?_)
 have hbz:=Below.gr (hC11) hu
 have Et2:=Gr.blk hu C11_t2
 have Et3:=Gr.blk hu C11_t3
 have Et4:=Gr.blk hu hL11
 go_wp2
 exact bodyPost_ret (res_three_cells rfl _ _ (w.heap.size+1) (w.heap.size+2) (w.heap.size+3) _ _ _ _ _ _ _ rfl Et2 rfl Et3 rfl Et4 Tryz.underlying64 rfl (by kernel_rfl) (by kernel_rfl) (by kernel_rfl)) rfl ⟨rfl,hbz⟩
end
end
section
section
open Go.RowKit Go.Lib
theorem all_range_eqN:∀ (xs ys:List Nat),xs.length=ys.length→((List.range xs.length).all λi=>xs.getD i 0 == ys.getD i 0)=(xs == ys)
 | [],[],_=>rfl
 | x::xs,y::ys,h=>by
  have ih:=all_range_eqN xs ys (by simpa using h)
  rw [List.length_cons,List.range_succ_eq_map,List.all_cons,List.all_map]
  simp only [List.getD_cons_zero,Function.comp_def,List.getD_cons_succ,ih]
  simp [List.cons_beq_cons]
 | [],_::_,h=>by simp at h
 | _::_,[],h=>by simp at h
theorem run_equalIn_words {P:Program} (w:World) (d:Nat) (t e:TypeId) (n:Nat) (ht:P.underlying t=some (.array n e)) (he:P.underlying e=some (.int .u64)) (hsz:∀ w,(sizeOf e).run P w=.ok 1 w)
  (xs ys:List Nat) (hx:xs.length=n) (hy:ys.length=n) :
  (Op.equalIn (d+2) t (.agg (xs.map qv).toArray) (.agg (ys.map qv).toArray)).run P w=.ok (xs == ys) w:=by
 rw [← all_range_eqN xs ys (hx.trans hy.symm),hx,List.range_eq_range',Op.equalIn]
 simp only [Sem.run_bind,run_underlying ht,Result.andThen_ok,hsz,Std.Legacy.Range.forIn_eq_forIn_range',Std.Legacy.Range.size,Nat.sub_zero,Nat.add_sub_cancel,Nat.div_one]
 have hl:∀ i∈List.range' 0 n 1,i<n:=λi hi=>by simpa using (List.mem_range'_1.1 hi).2
 generalize List.range' 0 n 1=l at hl ⊢
 induction l with
 | nil=>simp
 | cons i l ih =>
  have hi:i<n:=hl i (by simp)
  have px:(part e (xs.map qv).toArray (i*1)).run P w=.ok (qv (xs.getD i 0)) w:=by
   simp [part,isAgg,run_underlying he,List.getD,List.getElem?_eq_getElem (show i<xs.length by omega)]
  have py:(part e (ys.map qv).toArray (i*1)).run P w=.ok (qv (ys.getD i 0)) w:=by
   simp [part,isAgg,run_underlying he,List.getD,List.getElem?_eq_getElem (show i<ys.length by omega)]
  have pe:(Op.equalIn (d+1) e (qv (xs.getD i 0)) (qv (ys.getD i 0))).run P w=.ok (xs.getD i 0 == ys.getD i 0) w:=by
   rw [qv,qv,run_equalIn_int w d e .u64 .u64 _ _ he]
   congr 1
   rw [Bool.eq_iff_iff]
   simp
   omega
  simp only [List.forIn_cons,Sem.run_bind,px,py,pe,Result.andThen_ok,List.all_cons]
  cases hb:(xs.getD i 0 == ys.getD i 0)
  ·simp
  ·simp only [Bool.not_true,Bool.false_eq_true,if_false,Sem.run_pure,Result.andThen_ok,Bool.true_and]
   exact ih λj hj=>hl j (by simp [hj])
def wl (n:Nat):List Nat:=[n%18446744073709551616,n / 18446744073709551616%18446744073709551616,n / 340282366920938463463374607431768211456%18446744073709551616,n / 6277101735386680763835789423207666416102355444464034512896%18446744073709551616]
theorem fv_wl (n:Nat):fv n=.agg ((wl n).map qv).toArray:=rfl
theorem wl_inj {n m:Nat} (hn:n<(2^256)) (hm:m<(2^256)) (h:wl n=wl m):n=m:=by
 unfold wl at h
 simp only [List.cons.injEq,and_true] at h
 obtain ⟨h0,h1,h2,h3⟩:=h
 omega
theorem wl_beq {n m:Nat} (hn:n<(2^256)) (hm:m<(2^256)):(wl n == wl m)=decide (n=m):=by
 by_cases h:n=m
 ·subst h; simp
 ·have:wl n≠wl m:=λe=>h (wl_inj hn hm e)
  simp [h,this]
theorem run_equalIn_fv (W:World) (n m:Nat) (hn:n<(2^256)) (hm:m<(2^256)):(Op.equalIn 10000 64 (fv n) (fv m)).run Tryz.prog W=.ok (decide (n=m)) W:=by
 rw [fv_wl,fv_wl]
 have h:=run_equalIn_words W 9998 64 28 4 Tryz.underlying64 Tryz.underlying28 (λW=>by kernel_rfl) (wl n) (wl m) rfl rfl
 rw [wl_beq hn hm] at h
 exact h
theorem run_eql_fv (W:World) (n m:Nat) (hn:n<(2^256)) (hm:m<(2^256)):(binOp .eql 64 (fv n) (fv m)).run Tryz.prog W=.ok (.bool (decide (n=m))) W:=by
 have h:=run_equalIn_fv W n m hn hm
 rw [fv_wl,fv_wl] at h ⊢
 rw [run_eql_struct,h]
 rfl
theorem run_neq_fv (W:World) (n m:Nat) (hn:n<(2^256)) (hm:m<(2^256)):(binOp .neq 64 (fv n) (fv m)).run Tryz.prog W=.ok (.bool (decide (n≠m))) W:=by
 have h:=run_equalIn_fv W n m hn hm
 rw [fv_wl,fv_wl] at h ⊢
 rw [run_neq_struct,h]
 by_cases e:n=m <;> simp [e]
theorem run_eqGuard_fv (op:BinOp) (x y:Operand) (n m:Nat) (W:World):(eqGuard op 64 x y (fv n) (fv m)).run Tryz.prog W=.ok () W:=by
 rw [fv_fcs,fv_fcs]
 go_simp
theorem and_one (n:Nat) (hn:n<18446744073709551616):bits .and .u64 (n:Int) 1=((n%2:Nat):Int):=by
 have h:=bits_and_u64_nat n 1 hn (by omega)
 have e:n &&& 1=n%2:=Nat.and_two_pow_sub_one_eq_mod n 1
 rw [e] at h
 exact h
set_option maxHeartbeats 1000000 in
theorem odd_any (w:World) (x:Nat) (hx:x<(2^256)):Calls Tryz.prog 50 #[fv x] w λe w'=>e=.returned (.bool (decide (x%pM%2=1)))∧Below w.heap.size w w':=by
 obtain ⟨z,hz⟩:∃ z,z=x%pM:=⟨_,rfl⟩
 have hzl:z<(2^256):=by rw [hz]; exact mod_lt x
 obtain ⟨z0,z1,z2,z3,a0,a1,a2,a3,ez,fz⟩:=words_of z hzl
 obtain ⟨o,ho⟩:∃ o,o=z%2:=⟨_,rfl⟩
 have h1:bits .and .u64 (z0:Int) 1=(o:Int):=by rw [and_one z0 a0,ho]; congr 1; omega
 have hN:∀ w,Calls Tryz.prog 67 #[fv x] w λe w'=>e=.returned (.agg #[.int .u64 z0,.int .u64 z1,.int .u64 z2,.int .u64 z3])∧Below w.heap.size w w':=by
  intro w; rw [← fz,hz]; exact norm_any w x hx
 obtain ⟨x0,x1,x2,x3,fx⟩:=words_fv x hx
 rw [fx] at hN ⊢
 rw [← hz, ← ho]
 have hol:o<2:=by omega
 obtain ⟨b,hb⟩:∃ b,b=decide (o=1):=⟨_,rfl⟩
 have hob:((o:Int) == 1)=b:=by
  rw [hb]
  rcases (show o=0∨o=1 by omega) with rfl | rfl <;> rfl
 rw [← hb]
 clear fx hx hz hzl ez fz ho a0 a1 a2 a3 hb hol
 have hI:∀ W,(Instr.index 64 (.agg #[.int .u64 z0,.int .u64 z1,.int .u64 z2,.int .u64 z3]) (.int .i64 0)).run Tryz.prog W=.ok (.int .u64 (z0:Int)) W:=λW=>by kernel_rfl
 go_enter Tryz.func50,Tryz.ntmps50
 go_wp2_with fail
 refine (hN _).mono ?_
 rintro e w1 ⟨rfl,hb1⟩
 go_wp2
 go_ret
 exact ⟨rfl,Below.gr ((Below.refl _ _).alloc (Nat.le_refl _) _) hb1⟩
end
end
section
section
open Go.RowKit Go.Lib
def rZ1 (x:Nat):Nat:=jn (rMost x) 23 (rSome x)
def rZ2 (x:Nat):Nat:=jn (rZ1 x) 6 (rTwo x)
def rootR (x:Nat):Nat:=sqI (rZ2 x) 2
theorem rootR_lt (x:Nat):rootR x<(2^256):=mulP_lt _ _
theorem rootR_red (x:Nat):rootR x%pM=rootR x:=by
 have h:rootR x=sqI (rZ2 x) 1*sqI (rZ2 x) 1%pM:=rfl
 rw [h,Nat.mod_mod]
def eRoot:Nat:=((eMost*2 ^ 23+eSome)*2 ^ 6+eTwo)*2 ^ 2
theorem rootR_pow (x:Nat):rootR x%pM=x ^ eRoot%pM:=by
 unfold rootR eRoot
 exact sqI_pow (jn_pow (jn_pow (rMost_pow x) (rSome_pow x)) (rTwo_pow x)) 2
def sqrtS (x:Nat):Nat×Bool:=if mulP (rootR x) (rootR x)≠x%pM then (0,false) else if rootR x%pM%2=1 then (negP (rootR x),true) else (rootR x,true)
set_option maxHeartbeats 4000000 in
set_option maxRecDepth 100000 in
theorem sqrt_any (w:World) (x:Nat) (hx:x<(2^256)):Calls Tryz.prog 43 #[fv x] w λe w'=>e=.returned (.tuple #[fv (sqrtS x).1,.bool (sqrtS x).2])∧Below w.heap.size w w':=by
 obtain ⟨z2,hz2⟩:∃ z,z=rTwo x:=⟨_,rfl⟩
 obtain ⟨zs,hzs⟩:∃ z,z=rSome x:=⟨_,rfl⟩
 obtain ⟨zm,hzm⟩:∃ z,z=rMost x:=⟨_,rfl⟩
 obtain ⟨y1,hy1⟩:∃ z,z=rZ1 x:=⟨_,rfl⟩
 obtain ⟨y2,hy2⟩:∃ z,z=rZ2 x:=⟨_,rfl⟩
 obtain ⟨r,hr⟩:∃ z,z=rootR x:=⟨_,rfl⟩
 obtain ⟨m,hm⟩:∃ z,z=mulP r r:=⟨_,rfl⟩
 obtain ⟨n,hn⟩:∃ z,z=x%pM:=⟨_,rfl⟩
 obtain ⟨g,hg⟩:∃ z,z=negP r:=⟨_,rfl⟩
 have hrl:r<(2^256):=by rw [hr]; exact rootR_lt x
 have hml:m<(2^256):=by rw [hm]; exact mulP_lt _ _
 have hnl:n<(2^256):=by rw [hn]; exact mod_lt x
 have cR:∀ w,Calls Tryz.prog 68 #[fv x] w λe w'=>e=.returned (.tuple #[fv z2,fv zs,fv zm])∧Below w.heap.size w w':=by
  intro w; rw [hz2,hzs,hzm]; exact runs_any w x hx
 have c1:=λw=>join_at w zm 23 zs y1 23 rfl (by rw [hzm,hzs,hy1]; rfl) (by rw [hzm]; exact rMost_lt x) (by rw [hzs]; exact rSome_lt x) (by omega)
 have c2:=λw=>join_at w y1 6 z2 y2 6 rfl (by rw [hy1,hz2,hy2]; rfl) (by rw [hy1]; exact jn_lt _ _ _) (by rw [hz2]; exact rTwo_lt x) (by omega)
 have c3:∀ w,Calls Tryz.prog 70 #[fv y2,.int .i64 2] w λe w'=>e=.returned (fv r)∧Below w.heap.size w w':=by
  intro w; rw [hr,rootR, ← hy2]; exact square_any w y2 2 (by rw [hy2]; exact jn_lt _ _ _) (by omega)
 have cm:∀ w,Calls Tryz.prog 71 #[fv r,fv r] w λe w'=>e=.returned (fv m)∧Below w.heap.size w w':=by
  intro w; rw [hm]; exact mulF_any w r r hrl hrl
 have cn:∀ w,Calls Tryz.prog 67 #[fv x] w λe w'=>e=.returned (fv n)∧Below w.heap.size w w':=by
  intro w; rw [hn]; exact norm_any w x hx
 obtain ⟨o,ho⟩:∃ o,o=decide (r%pM%2=1):=⟨_,rfl⟩
 have co:∀ w,Calls Tryz.prog 50 #[fv r] w λe w'=>e=.returned (.bool o)∧Below w.heap.size w w':=by
  intro w; rw [ho]; exact odd_any w r hrl
 have cg:∀ w,Calls Tryz.prog 72 #[fv r] w λe w'=>e=.returned (fv g)∧Below w.heap.size w w':=by
  intro w; rw [hg]; exact negF_any w r hrl
 obtain ⟨b,hb⟩:∃ b,b=decide (m≠n):=⟨_,rfl⟩
 have eb:∀ W,(binOp .neq 64 (fv m) (fv n)).run Tryz.prog W=.ok (.bool b) W:=λW=>by rw [hb]; exact run_neq_fv W m n hml hnl
 have hS:sqrtS x=if b=true then (0,false) else if o=true then (g,true) else (r,true):=by
  unfold sqrtS
  rw [← hr, ← hm, ← hn, ← hg,hb,ho]
  by_cases h1:m=n <;> by_cases h2:r%pM%2=1 <;> simp [h1,h2]
 obtain ⟨x0,x1,x2,x3,fx⟩:=words_fv x hx
 have FX:=Lib.hid fx
 rw [fx] at cR ⊢
 rw [hS]
 clear fx hx hz2 hzs hzm hy1 hy2 hr hm hn hg hrl hml hnl ho hb hS
 go_enter Tryz.func43,Tryz.ntmps43
 go_wp2_with fail
 refine (cR _).mono ?_
 rintro e w10 ⟨rfl,hb⟩
 have B0_a:Blk w10 (w.heap.size) 64 _:=Gr.blk hb (Blk.eq_ ((Blk.new w _ _).alloc _) (fcs_words FX.out).symm)
 have l0_a:=B0_a.lt
 have B0_t2:Blk w10 (w.heap.size+1) 64 _:=Gr.blk hb (blk_new2 w _ _ _)
 have l0_t2:=B0_t2.lt
 have hB0:=Below.gr (below_alloc2 w _ _) hb
 have sz0:=hB0.size
 clear hb
 go_wp2_with (first | ((with_reducible refine here_store ?_); refine wpList_store_blk rfl _ _ _ rfl (w10.heap.size) (fcs (z2)) rfl rfl _ _ (((Blk.new w10 _ _).alloc _).alloc _) (by kernel_rfl) (by rfl) (fcs_one _) ?_; intro v11t4 hLt4 hqt4 hKt4; have Ct4_a:=hKt4 _ (by omega) _ _ ((((B0_a).alloc _).alloc _).alloc _); have Ct4_t2:=hKt4 _ (by omega) _ _ ((((B0_t2).alloc _).alloc _).alloc _); have Ct4_t5:=hKt4 _ (by omega) _ _ ((blk_new2 w10 _ _ _).alloc _); have Ct4_t6:=hKt4 _ (by omega) _ _ (blk_new3 w10 _ _ _ _); have hCt4:=((((hB0).alloc (by omega) _).alloc (by simp <;> omega) _).alloc (by simp <;> omega) _).trans (hqt4 _ (by omega))) | ((with_reducible refine here_store ?_); refine wpList_store_blk rfl _ _ _ rfl (w10.heap.size+1) (fcs (zs)) rfl rfl _ _ (Ct4_t5) (by kernel_rfl) (by rfl) (fcs_one _) ?_; intro v11t5 hLt5 hqt5 hKt5; have Ct5_a:=hKt5 _ (by omega) _ _ (Ct4_a); have Ct5_t2:=hKt5 _ (by omega) _ _ (Ct4_t2); have Ct5_t6:=hKt5 _ (by omega) _ _ (Ct4_t6); have Ct5_t4:=hKt5 _ (by omega) _ _ (hLt4); have hCt5:=(hCt4).trans (hqt5 _ (by omega))) | ((with_reducible refine here_store ?_); refine wpList_store_blk rfl _ _ _ rfl (w10.heap.size+2) (fcs (zm)) rfl rfl _ _ (Ct5_t6) (by kernel_rfl) (by rfl) (fcs_one _) ?_; intro v11t6 hLt6 hqt6 hKt6; have Ct6_a:=hKt6 _ (by omega) _ _ (Ct5_a); have Ct6_t2:=hKt6 _ (by omega) _ _ (Ct5_t2); have Ct6_t4:=hKt6 _ (by omega) _ _ (Ct5_t4); have Ct6_t5:=hKt6 _ (by omega) _ _ (hLt5); have hCt6:=(hCt5).trans (hqt6 _ (by omega))) | ((with_reducible refine here_load (d:=some 14) ?_); refine wpList_load_fv rfl _ _ rfl (w10.heap.size+2) rfl (zm) _ _ _ (hLt6) (fv_fcs (zm)) Tryz.underlying64 rfl (by kernel_rfl) ?_) | ((with_reducible refine here_load (d:=some 15) ?_); refine wpList_load_fv rfl _ _ rfl (w10.heap.size+1) rfl (zs) _ _ _ (Ct6_t5) (fv_fcs (zs)) Tryz.underlying64 rfl (by kernel_rfl) ?_))
 refine (c1 _).mono ?_
 rintro e w11 ⟨rfl,hb⟩
 have B1_a:Blk w11 (w.heap.size) 64 _:=Gr.blk hb (Ct6_a)
 have l1_a:=B1_a.lt
 have B1_t2:Blk w11 (w.heap.size+1) 64 _:=Gr.blk hb (Ct6_t2)
 have l1_t2:=B1_t2.lt
 have B1_t4:Blk w11 (w10.heap.size) 64 _:=Gr.blk hb (Ct6_t4)
 have l1_t4:=B1_t4.lt
 have B1_t5:Blk w11 (w10.heap.size+1) 64 _:=Gr.blk hb (Ct6_t5)
 have l1_t5:=B1_t5.lt
 have B1_t6:Blk w11 (w10.heap.size+2) 64 _:=Gr.blk hb (hLt6)
 have l1_t6:=B1_t6.lt
 have hB1:=Below.gr (hCt6) hb
 have sz1:=hB1.size
 clear hb
 go_wp2_with (first | ((with_reducible refine here_store ?_); refine wpList_store_blk rfl _ _ _ rfl (w11.heap.size) (fcs (y1)) rfl rfl _ _ (Blk.new w11 _ _) (by kernel_rfl) (by rfl) (fcs_one _) ?_; intro v12 hL2 hq2 hK2; have C2_a:=hK2 _ (by omega) _ _ ((B1_a).alloc _); have C2_t2:=hK2 _ (by omega) _ _ ((B1_t2).alloc _); have C2_t4:=hK2 _ (by omega) _ _ ((B1_t4).alloc _); have C2_t5:=hK2 _ (by omega) _ _ ((B1_t5).alloc _); have C2_t6:=hK2 _ (by omega) _ _ ((B1_t6).alloc _); have hC2:=(((hB1).alloc (by omega) _)).trans (hq2 _ (by omega))) | ((with_reducible refine here_load (d:=some 17) ?_); refine wpList_load_fv rfl _ _ rfl (w11.heap.size) rfl (y1) _ _ _ (hL2) (fv_fcs (y1)) Tryz.underlying64 rfl (by kernel_rfl) ?_) | ((with_reducible refine here_load (d:=some 18) ?_); refine wpList_load_fv rfl _ _ rfl (w10.heap.size) rfl (z2) _ _ _ (C2_t4) (fv_fcs (z2)) Tryz.underlying64 rfl (by kernel_rfl) ?_))
 refine (c2 _).mono ?_
 rintro e w12 ⟨rfl,hb⟩
 have B2_a:Blk w12 (w.heap.size) 64 _:=Gr.blk hb (C2_a)
 have l2_a:=B2_a.lt
 have B2_t2:Blk w12 (w.heap.size+1) 64 _:=Gr.blk hb (C2_t2)
 have l2_t2:=B2_t2.lt
 have B2_t4:Blk w12 (w10.heap.size) 64 _:=Gr.blk hb (C2_t4)
 have l2_t4:=B2_t4.lt
 have B2_t5:Blk w12 (w10.heap.size+1) 64 _:=Gr.blk hb (C2_t5)
 have l2_t5:=B2_t5.lt
 have B2_t6:Blk w12 (w10.heap.size+2) 64 _:=Gr.blk hb (C2_t6)
 have l2_t6:=B2_t6.lt
 have B2_t7:Blk w12 (w11.heap.size) 64 _:=Gr.blk hb (hL2)
 have l2_t7:=B2_t7.lt
 have hB2:=Below.gr (hC2) hb
 have sz2:=hB2.size
 clear hb
 go_wp2_with (first | ((with_reducible refine here_store ?_); refine wpList_store_blk rfl _ _ _ rfl (w11.heap.size) (fcs (y2)) rfl rfl _ _ (B2_t7) (by kernel_rfl) (by rfl) (fcs_one _) ?_; intro v13 hL3 hq3 hK3; have C3_a:=hK3 _ (by omega) _ _ (B2_a); have C3_t2:=hK3 _ (by omega) _ _ (B2_t2); have C3_t4:=hK3 _ (by omega) _ _ (B2_t4); have C3_t5:=hK3 _ (by omega) _ _ (B2_t5); have C3_t6:=hK3 _ (by omega) _ _ (B2_t6); have hC3:=(hB2).trans (hq3 _ (by omega))) | ((with_reducible refine here_load (d:=some 20) ?_); refine wpList_load_fv rfl _ _ rfl (w11.heap.size) rfl (y2) _ _ _ (hL3) (fv_fcs (y2)) Tryz.underlying64 rfl (by kernel_rfl) ?_))
 refine (c3 _).mono ?_
 rintro e w13 ⟨rfl,hb⟩
 have B3_a:Blk w13 (w.heap.size) 64 _:=Gr.blk hb (C3_a)
 have l3_a:=B3_a.lt
 have B3_t2:Blk w13 (w.heap.size+1) 64 _:=Gr.blk hb (C3_t2)
 have l3_t2:=B3_t2.lt
 have B3_t4:Blk w13 (w10.heap.size) 64 _:=Gr.blk hb (C3_t4)
 have l3_t4:=B3_t4.lt
 have B3_t5:Blk w13 (w10.heap.size+1) 64 _:=Gr.blk hb (C3_t5)
 have l3_t5:=B3_t5.lt
 have B3_t6:Blk w13 (w10.heap.size+2) 64 _:=Gr.blk hb (C3_t6)
 have l3_t6:=B3_t6.lt
 have B3_t7:Blk w13 (w11.heap.size) 64 _:=Gr.blk hb (hL3)
 have l3_t7:=B3_t7.lt
 have hB3:=Below.gr (hC3) hb
 have sz3:=hB3.size
 clear hb
 go_wp2_with (first | ((with_reducible refine here_store ?_); refine wpList_store_blk rfl _ _ _ rfl (w11.heap.size) (fcs (r)) rfl rfl _ _ (B3_t7) (by kernel_rfl) (by rfl) (fcs_one _) ?_; intro v14 hL4 hq4 hK4; have C4_a:=hK4 _ (by omega) _ _ (B3_a); have C4_t2:=hK4 _ (by omega) _ _ (B3_t2); have C4_t4:=hK4 _ (by omega) _ _ (B3_t4); have C4_t5:=hK4 _ (by omega) _ _ (B3_t5); have C4_t6:=hK4 _ (by omega) _ _ (B3_t6); have hC4:=(hB3).trans (hq4 _ (by omega))))
 refine wp_region_G (λ_=>false) (by kernel_rfl) ?_
 try simp only [Act.put]
 refine tkw 0 rfl (YieldsG.loadF (by rfl) _ _ rfl (w11.heap.size) rfl (r) _ _ (hL4) (fv_fcs _) Tryz.underlying64 rfl (by kernel_rfl)) ?_
 try simp only [Act.put,aA,aZ,aS]
 refine tkw 1 rfl (YieldsG.loadF (by rfl) _ _ rfl (w11.heap.size) rfl (r) _ _ (hL4) (fv_fcs _) Tryz.underlying64 rfl (by kernel_rfl)) ?_
 try simp only [Act.put,aA,aZ,aS]
 refine tkw 2 rfl (YieldsG.call (v:=fv m) (by rfl) 71 _ (λw9=>by go_simp; try (first | with_reducible rfl | rfl)) (λw9 h9=>cm w9)) ?_
 try simp only [Act.put,aA,aZ,aS]
 refine tkw 3 rfl (YieldsG.loadF (by rfl) _ _ rfl (w.heap.size) rfl (x) _ _ (C4_a) (fv_fcs _) Tryz.underlying64 rfl (by kernel_rfl)) ?_
 try simp only [Act.put,aA,aZ,aS]
 refine tkw 4 rfl (YieldsG.call (v:=fv n) (by rfl) 67 _ (λw9=>by go_simp; try (first | with_reducible rfl | rfl)) (λw9 h9=>cn w9)) ?_
 try simp only [Act.put,aA,aZ,aS]
 refine tkw 5 rfl (YieldsG.pure (v:=.bool b) (by rfl) (λw9 h9=>by go_simp; rw [run_eqGuard_fv]; simp only [Result.andThen_ok])) ?_
 try simp only [Act.put,aA,aZ,aS]
 refine wpAnyG_done (by kernel_rfl) (λu hu=>?_)
 have hbu:=Below.gr (hC4) hu
 have Et2:=Gr.blk hu C4_t2
 have lt2:=Et2.lt
 have Et7:=Gr.blk hu hL4
 have lt7:=Et7.lt
 clear eb cm cn c1 c2 c3 cR
 cases b
 ·skip
  go_wp2_with (first | ((with_reducible refine here_load (d:=some 29) ?_); refine wpList_load_fv rfl _ _ rfl (w11.heap.size) rfl (r) _ _ _ (Et7) (fv_fcs (r)) Tryz.underlying64 rfl (by kernel_rfl) ?_))
  refine (co _).mono ?_
  rintro e w30 ⟨rfl,hb⟩
  have B20_t2:Blk w30 (w.heap.size+1) 64 _:=Gr.blk hb (Et2)
  have l20_t2:=B20_t2.lt
  have B20_t7:Blk w30 (w11.heap.size) 64 _:=Gr.blk hb (Et7)
  have l20_t7:=B20_t7.lt
  have hB20:=Below.gr (hbu) hb
  have sz20:=hB20.size
  clear hb
  cases o
  ·skip
   go_wp2_with (first | ((with_reducible refine here_load (d:=some 33) ?_); refine wpList_load_fv rfl _ _ rfl (w11.heap.size) rfl (r) _ _ _ (B20_t7) (fv_fcs (r)) Tryz.underlying64 rfl (by kernel_rfl) ?_) | ((with_reducible refine here_store ?_); refine wpList_store_blk rfl _ _ _ rfl (w.heap.size+1) (fcs (r)) rfl rfl _ _ (B20_t2) (by kernel_rfl) (by rfl) (fcs_one _) ?_; intro v31 hL21 hq21 hK21; have C21_t7:=hK21 _ (by omega) _ _ (B20_t7); have hC21:=(hB20).trans (hq21 _ (by omega))))
   exact bodyPost_ret (res_cell_tmp rfl _ _ (w.heap.size+1) _ _ _ _ rfl hL21 rfl Tryz.underlying64 rfl (by kernel_rfl)) rfl ⟨rfl,hC21⟩
  ·skip
   go_wp2_with (first | ((with_reducible refine here_load (d:=some 31) ?_); refine wpList_load_fv rfl _ _ rfl (w11.heap.size) rfl (r) _ _ _ (B20_t7) (fv_fcs (r)) Tryz.underlying64 rfl (by kernel_rfl) ?_))
   refine (cg _).mono ?_
   rintro e w31 ⟨rfl,hb⟩
   have B21_t2:Blk w31 (w.heap.size+1) 64 _:=Gr.blk hb (B20_t2)
   have l21_t2:=B21_t2.lt
   have B21_t7:Blk w31 (w11.heap.size) 64 _:=Gr.blk hb (B20_t7)
   have l21_t7:=B21_t7.lt
   have hB21:=Below.gr (hB20) hb
   have sz21:=hB21.size
   clear hb
   go_wp2_with (first | ((with_reducible refine here_store ?_); refine wpList_store_blk rfl _ _ _ rfl (w11.heap.size) (fcs (g)) rfl rfl _ _ (B21_t7) (by kernel_rfl) (by rfl) (fcs_one _) ?_; intro v32 hL22 hq22 hK22; have C22_t2:=hK22 _ (by omega) _ _ (B21_t2); have hC22:=(hB21).trans (hq22 _ (by omega))) | ((with_reducible refine here_load (d:=some 33) ?_); refine wpList_load_fv rfl _ _ rfl (w11.heap.size) rfl (g) _ _ _ (hL22) (fv_fcs (g)) Tryz.underlying64 rfl (by kernel_rfl) ?_) | ((with_reducible refine here_store ?_); refine wpList_store_blk rfl _ _ _ rfl (w.heap.size+1) (fcs (g)) rfl rfl _ _ (C22_t2) (by kernel_rfl) (by rfl) (fcs_one _) ?_; intro vz hLz hqz hKz))
   exact bodyPost_ret (res_cell_tmp rfl _ _ (w.heap.size+1) _ _ _ _ rfl hLz rfl Tryz.underlying64 rfl (by kernel_rfl)) rfl ⟨rfl,(hC22).trans (hqz _ (by omega))⟩
 ·skip
  go_wp2_with (first | ((with_reducible refine here_store ?_); refine wpList_store_blk rfl _ _ _ rfl (w.heap.size+1) _ rfl rfl _ _ (Et2) (by kernel_rfl) (by rfl) (by simp [Value.oneCell']) ?_; intro vz hLz hqz hKz))
  exact bodyPost_ret (res_cell_tmp rfl _ _ (w.heap.size+1) _ _ _ _ rfl hLz rfl Tryz.underlying64 rfl (by kernel_rfl)) rfl ⟨rfl,hbu.trans (hqz _ (by omega))⟩
end
end
section
section
open Go.RowKit Go.Lib
def iZ2 (x:Nat):Nat:=jn (rZ1 x) 5 x
def iZ3 (x:Nat):Nat:=jn (iZ2 x) 3 (rTwo x)
def invR (x:Nat):Nat:=jn (iZ3 x) 2 x
theorem invR_red (x:Nat):invR x%pM=invR x:=by
 have h:invR x=sqI (iZ3 x) 2*x%pM:=rfl
 rw [h,Nat.mod_mod]
def eInv:Nat:=(((eMost*2 ^ 23+eSome)*2 ^ 5+1)*2 ^ 3+eTwo)*2 ^ 2+1
theorem invR_pow (x:Nat):invR x%pM=x ^ eInv%pM:=by
 unfold invR eInv
 exact jn_pow (jn_pow (jn_pow (jn_pow (rMost_pow x) (rSome_pow x)) (pow_self x)) (rTwo_pow x)) (pow_self x)
set_option maxHeartbeats 4000000 in
set_option maxRecDepth 100000 in
theorem inv_any (w:World) (x:Nat) (hx:x<(2^256)):Calls Tryz.prog 114 #[fv x] w λe w'=>e=.returned (fv (invR x))∧Below w.heap.size w w':=by
 obtain ⟨z2,hz2⟩:∃ z,z=rTwo x:=⟨_,rfl⟩
 obtain ⟨zs,hzs⟩:∃ z,z=rSome x:=⟨_,rfl⟩
 obtain ⟨zm,hzm⟩:∃ z,z=rMost x:=⟨_,rfl⟩
 obtain ⟨y1,hy1⟩:∃ z,z=rZ1 x:=⟨_,rfl⟩
 obtain ⟨y2,hy2⟩:∃ z,z=iZ2 x:=⟨_,rfl⟩
 obtain ⟨y3,hy3⟩:∃ z,z=iZ3 x:=⟨_,rfl⟩
 obtain ⟨y4,hy4⟩:∃ z,z=invR x:=⟨_,rfl⟩
 have cR:∀ w,Calls Tryz.prog 68 #[fv x] w λe w'=>e=.returned (.tuple #[fv z2,fv zs,fv zm])∧Below w.heap.size w w':=by
  intro w; rw [hz2,hzs,hzm]; exact runs_any w x hx
 have c1:=λw=>join_at w zm 23 zs y1 23 rfl (by rw [hzm,hzs,hy1]; rfl) (by rw [hzm]; exact rMost_lt x) (by rw [hzs]; exact rSome_lt x) (by omega)
 have c2:=λw=>join_at w y1 5 x y2 5 rfl (by rw [hy1,hy2]; rfl) (by rw [hy1]; exact jn_lt _ _ _) hx (by omega)
 have c3:=λw=>join_at w y2 3 z2 y3 3 rfl (by rw [hy2,hz2,hy3]; rfl) (by rw [hy2]; exact jn_lt _ _ _) (by rw [hz2]; exact rTwo_lt x) (by omega)
 have c4:=λw=>join_at w y3 2 x y4 2 rfl (by rw [hy3,hy4]; rfl) (by rw [hy3]; exact jn_lt _ _ _) hx (by omega)
 rw [← hy4]
 obtain ⟨x0,x1,x2,x3,fx⟩:=words_fv x hx
 have FX:=Lib.hid fx
 rw [fx] at cR ⊢
 clear fx hx hz2 hzs hzm hy1 hy2 hy3 hy4
 go_enter Tryz.func114,Tryz.ntmps114
 go_wp2_with fail
 refine (cR _).mono ?_
 rintro e w10 ⟨rfl,hb⟩
 have B0_a:Blk w10 (w.heap.size) 64 _:=Gr.blk hb (Blk.eq_ ((Blk.new w _ _).alloc _) (fcs_words FX.out).symm)
 have l0_a:=B0_a.lt
 have B0_t2:Blk w10 (w.heap.size+1) 64 _:=Gr.blk hb (blk_new2 w _ _ _)
 have l0_t2:=B0_t2.lt
 have hB0:=Below.gr (below_alloc2 w _ _) hb
 have sz0:=hB0.size
 clear hb
 go_wp2_with (first | ((with_reducible refine here_store ?_); refine wpList_store_blk rfl _ _ _ rfl (w10.heap.size) (fcs (z2)) rfl rfl _ _ (((Blk.new w10 _ _).alloc _).alloc _) (by kernel_rfl) (by rfl) (fcs_one _) ?_; intro v11t3 hLt3 hqt3 hKt3; have Ct3_a:=hKt3 _ (by omega) _ _ ((((B0_a).alloc _).alloc _).alloc _); have Ct3_t2:=hKt3 _ (by omega) _ _ ((((B0_t2).alloc _).alloc _).alloc _); have Ct3_t4:=hKt3 _ (by omega) _ _ ((blk_new2 w10 _ _ _).alloc _); have Ct3_t5:=hKt3 _ (by omega) _ _ (blk_new3 w10 _ _ _ _); have hCt3:=((((hB0).alloc (by omega) _).alloc (by simp <;> omega) _).alloc (by simp <;> omega) _).trans (hqt3 _ (by omega))) | ((with_reducible refine here_store ?_); refine wpList_store_blk rfl _ _ _ rfl (w10.heap.size+1) (fcs (zs)) rfl rfl _ _ (Ct3_t4) (by kernel_rfl) (by rfl) (fcs_one _) ?_; intro v11t4 hLt4 hqt4 hKt4; have Ct4_a:=hKt4 _ (by omega) _ _ (Ct3_a); have Ct4_t2:=hKt4 _ (by omega) _ _ (Ct3_t2); have Ct4_t5:=hKt4 _ (by omega) _ _ (Ct3_t5); have Ct4_t3:=hKt4 _ (by omega) _ _ (hLt3); have hCt4:=(hCt3).trans (hqt4 _ (by omega))) | ((with_reducible refine here_store ?_); refine wpList_store_blk rfl _ _ _ rfl (w10.heap.size+2) (fcs (zm)) rfl rfl _ _ (Ct4_t5) (by kernel_rfl) (by rfl) (fcs_one _) ?_; intro v11t5 hLt5 hqt5 hKt5; have Ct5_a:=hKt5 _ (by omega) _ _ (Ct4_a); have Ct5_t2:=hKt5 _ (by omega) _ _ (Ct4_t2); have Ct5_t3:=hKt5 _ (by omega) _ _ (Ct4_t3); have Ct5_t4:=hKt5 _ (by omega) _ _ (hLt4); have hCt5:=(hCt4).trans (hqt5 _ (by omega))) | ((with_reducible refine here_load (d:=some 13) ?_); refine wpList_load_fv rfl _ _ rfl (w10.heap.size+2) rfl (zm) _ _ _ (hLt5) (fv_fcs (zm)) Tryz.underlying64 rfl (by kernel_rfl) ?_) | ((with_reducible refine here_load (d:=some 14) ?_); refine wpList_load_fv rfl _ _ rfl (w10.heap.size+1) rfl (zs) _ _ _ (Ct5_t4) (fv_fcs (zs)) Tryz.underlying64 rfl (by kernel_rfl) ?_))
 refine (c1 _).mono ?_
 rintro e w11 ⟨rfl,hb⟩
 have B1_a:Blk w11 (w.heap.size) 64 _:=Gr.blk hb (Ct5_a)
 have l1_a:=B1_a.lt
 have B1_t2:Blk w11 (w.heap.size+1) 64 _:=Gr.blk hb (Ct5_t2)
 have l1_t2:=B1_t2.lt
 have B1_t3:Blk w11 (w10.heap.size) 64 _:=Gr.blk hb (Ct5_t3)
 have l1_t3:=B1_t3.lt
 have B1_t4:Blk w11 (w10.heap.size+1) 64 _:=Gr.blk hb (Ct5_t4)
 have l1_t4:=B1_t4.lt
 have B1_t5:Blk w11 (w10.heap.size+2) 64 _:=Gr.blk hb (hLt5)
 have l1_t5:=B1_t5.lt
 have hB1:=Below.gr (hCt5) hb
 have sz1:=hB1.size
 clear hb
 go_wp2_with (first | ((with_reducible refine here_store ?_); refine wpList_store_blk rfl _ _ _ rfl (w11.heap.size) (fcs (y1)) rfl rfl _ _ (Blk.new w11 _ _) (by kernel_rfl) (by rfl) (fcs_one _) ?_; intro v12 hL2 hq2 hK2; have C2_a:=hK2 _ (by omega) _ _ ((B1_a).alloc _); have C2_t2:=hK2 _ (by omega) _ _ ((B1_t2).alloc _); have C2_t3:=hK2 _ (by omega) _ _ ((B1_t3).alloc _); have C2_t4:=hK2 _ (by omega) _ _ ((B1_t4).alloc _); have C2_t5:=hK2 _ (by omega) _ _ ((B1_t5).alloc _); have hC2:=(((hB1).alloc (by omega) _)).trans (hq2 _ (by omega))) | ((with_reducible refine here_load (d:=some 16) ?_); refine wpList_load_fv rfl _ _ rfl (w11.heap.size) rfl (y1) _ _ _ (hL2) (fv_fcs (y1)) Tryz.underlying64 rfl (by kernel_rfl) ?_) | ((with_reducible refine here_load (d:=some 17) ?_); refine wpList_load_fv rfl _ _ rfl (w.heap.size) rfl (x) _ _ _ (C2_a) (fv_fcs (x)) Tryz.underlying64 rfl (by kernel_rfl) ?_))
 refine (c2 _).mono ?_
 rintro e w12 ⟨rfl,hb⟩
 have B2_a:Blk w12 (w.heap.size) 64 _:=Gr.blk hb (C2_a)
 have l2_a:=B2_a.lt
 have B2_t2:Blk w12 (w.heap.size+1) 64 _:=Gr.blk hb (C2_t2)
 have l2_t2:=B2_t2.lt
 have B2_t3:Blk w12 (w10.heap.size) 64 _:=Gr.blk hb (C2_t3)
 have l2_t3:=B2_t3.lt
 have B2_t4:Blk w12 (w10.heap.size+1) 64 _:=Gr.blk hb (C2_t4)
 have l2_t4:=B2_t4.lt
 have B2_t5:Blk w12 (w10.heap.size+2) 64 _:=Gr.blk hb (C2_t5)
 have l2_t5:=B2_t5.lt
 have B2_t6:Blk w12 (w11.heap.size) 64 _:=Gr.blk hb (hL2)
 have l2_t6:=B2_t6.lt
 have hB2:=Below.gr (hC2) hb
 have sz2:=hB2.size
 clear hb
 go_wp2_with (first | ((with_reducible refine here_store ?_); refine wpList_store_blk rfl _ _ _ rfl (w11.heap.size) (fcs (y2)) rfl rfl _ _ (B2_t6) (by kernel_rfl) (by rfl) (fcs_one _) ?_; intro v13 hL3 hq3 hK3; have C3_a:=hK3 _ (by omega) _ _ (B2_a); have C3_t2:=hK3 _ (by omega) _ _ (B2_t2); have C3_t3:=hK3 _ (by omega) _ _ (B2_t3); have C3_t4:=hK3 _ (by omega) _ _ (B2_t4); have C3_t5:=hK3 _ (by omega) _ _ (B2_t5); have hC3:=(hB2).trans (hq3 _ (by omega))) | ((with_reducible refine here_load (d:=some 19) ?_); refine wpList_load_fv rfl _ _ rfl (w11.heap.size) rfl (y2) _ _ _ (hL3) (fv_fcs (y2)) Tryz.underlying64 rfl (by kernel_rfl) ?_) | ((with_reducible refine here_load (d:=some 20) ?_); refine wpList_load_fv rfl _ _ rfl (w10.heap.size) rfl (z2) _ _ _ (C3_t3) (fv_fcs (z2)) Tryz.underlying64 rfl (by kernel_rfl) ?_))
 refine (c3 _).mono ?_
 rintro e w13 ⟨rfl,hb⟩
 have B3_a:Blk w13 (w.heap.size) 64 _:=Gr.blk hb (C3_a)
 have l3_a:=B3_a.lt
 have B3_t2:Blk w13 (w.heap.size+1) 64 _:=Gr.blk hb (C3_t2)
 have l3_t2:=B3_t2.lt
 have B3_t3:Blk w13 (w10.heap.size) 64 _:=Gr.blk hb (C3_t3)
 have l3_t3:=B3_t3.lt
 have B3_t4:Blk w13 (w10.heap.size+1) 64 _:=Gr.blk hb (C3_t4)
 have l3_t4:=B3_t4.lt
 have B3_t5:Blk w13 (w10.heap.size+2) 64 _:=Gr.blk hb (C3_t5)
 have l3_t5:=B3_t5.lt
 have B3_t6:Blk w13 (w11.heap.size) 64 _:=Gr.blk hb (hL3)
 have l3_t6:=B3_t6.lt
 have hB3:=Below.gr (hC3) hb
 have sz3:=hB3.size
 clear hb
 go_wp2_with (first | ((with_reducible refine here_store ?_); refine wpList_store_blk rfl _ _ _ rfl (w11.heap.size) (fcs (y3)) rfl rfl _ _ (B3_t6) (by kernel_rfl) (by rfl) (fcs_one _) ?_; intro v14 hL4 hq4 hK4; have C4_a:=hK4 _ (by omega) _ _ (B3_a); have C4_t2:=hK4 _ (by omega) _ _ (B3_t2); have C4_t3:=hK4 _ (by omega) _ _ (B3_t3); have C4_t4:=hK4 _ (by omega) _ _ (B3_t4); have C4_t5:=hK4 _ (by omega) _ _ (B3_t5); have hC4:=(hB3).trans (hq4 _ (by omega))) | ((with_reducible refine here_load (d:=some 22) ?_); refine wpList_load_fv rfl _ _ rfl (w11.heap.size) rfl (y3) _ _ _ (hL4) (fv_fcs (y3)) Tryz.underlying64 rfl (by kernel_rfl) ?_) | ((with_reducible refine here_load (d:=some 23) ?_); refine wpList_load_fv rfl _ _ rfl (w.heap.size) rfl (x) _ _ _ (C4_a) (fv_fcs (x)) Tryz.underlying64 rfl (by kernel_rfl) ?_))
 refine (c4 _).mono ?_
 rintro e w14 ⟨rfl,hb⟩
 have B4_a:Blk w14 (w.heap.size) 64 _:=Gr.blk hb (C4_a)
 have l4_a:=B4_a.lt
 have B4_t2:Blk w14 (w.heap.size+1) 64 _:=Gr.blk hb (C4_t2)
 have l4_t2:=B4_t2.lt
 have B4_t3:Blk w14 (w10.heap.size) 64 _:=Gr.blk hb (C4_t3)
 have l4_t3:=B4_t3.lt
 have B4_t4:Blk w14 (w10.heap.size+1) 64 _:=Gr.blk hb (C4_t4)
 have l4_t4:=B4_t4.lt
 have B4_t5:Blk w14 (w10.heap.size+2) 64 _:=Gr.blk hb (C4_t5)
 have l4_t5:=B4_t5.lt
 have B4_t6:Blk w14 (w11.heap.size) 64 _:=Gr.blk hb (hL4)
 have l4_t6:=B4_t6.lt
 have hB4:=Below.gr (hC4) hb
 have sz4:=hB4.size
 clear hb
 go_wp2_with (first | ((with_reducible refine here_store ?_); refine wpList_store_blk rfl _ _ _ rfl (w.heap.size+1) (fcs (y4)) rfl rfl _ _ (B4_t2) (by kernel_rfl) (by rfl) (fcs_one _) ?_; intro v15 hL5 hq5 hK5; have C5_a:=hK5 _ (by omega) _ _ (B4_a); have C5_t3:=hK5 _ (by omega) _ _ (B4_t3); have C5_t4:=hK5 _ (by omega) _ _ (B4_t4); have C5_t5:=hK5 _ (by omega) _ _ (B4_t5); have C5_t6:=hK5 _ (by omega) _ _ (B4_t6); have hC5:=(hB4).trans (hq5 _ (by omega))))
 exact bodyPost_ret (results_cell_row rfl _ _ (w.heap.size+1) _ _ (0,0) _ rfl hL5 Tryz.underlying64 rfl (by kernel_rfl)) rfl ⟨rfl,hC5⟩
end
end
section
namespace Cu
open Go.RowKit Sy
instance npM:NeZero pM:=⟨by unfold pM; decide⟩
abbrev Fp:=Fin pM
theorem pM_K4:pM<(2^256):=by rw [pM_eq]; decide
theorem lt4 (a:Fp):a.val<(2^256):=Nat.lt_trans a.isLt pM_K4
def finv (a:Fp):Fp:=⟨invR a.val,by rw [← invR_red]; exact mod_lt_p _⟩
def nat (k:Nat) (h:k<pM):Fp:=⟨k,h⟩
theorem val_sub (a b:Fp):subP a.val b.val=(a - b).val:=by
 have hb:=b.isLt
 show (a.val+(pM - b.val%pM))%pM=((pM - b.val)+a.val)%pM
 rw [Nat.mod_eq_of_lt hb,Nat.add_comm]
theorem val_neg (a:Fp):negP a.val=(-a).val:=by
 have hb:=a.isLt
 show (pM - a.val%pM)%pM=(pM - a.val)%pM
 rw [Nat.mod_eq_of_lt hb]
theorem mul_c (a b:Fp) (w:World):Calls Tryz.prog 71 #[fv a.val,fv b.val] w (Gets w (fv (a*b).val)):=mulF_any w a.val b.val (lt4 a) (lt4 b)
theorem add_c (a b:Fp) (w:World):Calls Tryz.prog 73 #[fv a.val,fv b.val] w (Gets w (fv (a+b).val)):=addF_any w a.val b.val (lt4 a) (lt4 b)
theorem sub_c (a b:Fp) (w:World):Calls Tryz.prog 107 #[fv a.val,fv b.val] w (Gets w (fv (a - b).val)):=by rw [← val_sub]; exact subF_any w a.val b.val (lt4 a) (lt4 b)
theorem inv_c (a:Fp) (w:World):Calls Tryz.prog 114 #[fv a.val] w (Gets w (fv (finv a).val)):=inv_any w a.val (lt4 a)
theorem of_c (k:Nat) (h:k<pM) (hk:k<18446744073709551616) (w:World):Calls Tryz.prog 74 #[.int .u64 (k:Int)] w (Gets w (fv (nat k h).val)):=of_any w k hk
theorem inv_gen (p q a:Nat) (hp:Nt.Pr p) (hq:q+1=p - 1) (h:a%p≠0):a*(a ^ q%p)%p=1:=by
 rw [Nat.mul_mod_mod, ← Nat.pow_succ',show q.succ=p - 1 from hq]
 exact Nt.flt hp a h
theorem finv_one (a:Fp) (h:a≠0):a*finv a=1:=by
 have hp:Nt.Pr pM:=Nt.pr_p
 have ha:a.val%pM≠0:=by
  rw [Nat.mod_eq_of_lt a.isLt]
  exact λe=>h (Fin.ext e)
 obtain ⟨q,hq⟩:∃ q,q=eInv:=⟨_,rfl⟩
 have hq1:q+1=pM - 1:=by rw [hq]; decide +kernel
 have e1:=invR_pow a.val
 rw [← hq] at e1
 have e2:=inv_gen pM q a.val hp hq1 ha
 rw [← e1,Nat.mul_mod_mod] at e2
 exact Fin.ext e2
theorem cube_one (p q r x:Nat) (hp:Nt.Pr p) (hq:p - 1=3*q) (h3:x ^ 3%p=r) (hx:x%p≠0):r ^ q%p=1:=by
 have:=Nt.flt hp x hx
 rw [hq,Nat.pow_mul,Nat.pow_mod,h3] at this
 exact this
def thirdP:Nat:=38597363079105398474523661669562635951089994888546854679819194669302944890554
theorem thirdP_is:pM - 1=3*thirdP:=by decide +kernel
theorem no_cube:(pM - 7) ^ thirdP%pM≠1:=by
 rw [← Nt.pow_is 256 pM (pM - 7) thirdP (by decide +kernel) (by decide +kernel)]
 decide +kernel
theorem no_two (x y:Fp) (h:y*y=x*x*x+7):y≠0:=by
 rintro rfl
 have hx:x≠0:=by
  rintro rfl
  have:=congrArg Fin.val h
  exact absurd this (by decide +kernel)
 have ha:x.val%pM≠0:=by
  rw [Nat.mod_eq_of_lt x.isLt]
  exact λe=>hx (Fin.ext e)
 have h3:x.val ^ 3%pM=pM - 7:=by
  have h4:x*x*x=⟨pM - 7,by decide +kernel⟩:=by
   have e7:(⟨pM - 7,by decide +kernel⟩:Fp) = -7:=by decide +kernel
   rw [e7]
   clear ha hx
   grobner
  have h5:=congrArg Fin.val h4
  have h6:(x*x*x).val=x.val ^ 3%pM:=by
   show x.val*x.val%pM*x.val%pM=x.val ^ 3%pM
   rw [Nat.mod_mul_mod,show x.val ^ 3=x.val*x.val*x.val by rw [Nat.pow_succ,Nat.pow_succ,Nat.pow_one]]
  rw [← h6,h5]
 exact no_cube (cube_one pM thirdP _ x.val Nt.pr_p thirdP_is h3 ha)
theorem twice_zero (p k:Nat) (ho:p%2=1) (h:k<p) (h2:(k+k)%p=0):k=0:=by
 rcases Nat.lt_or_ge (k+k) p with hl | hl
 ·rw [Nat.mod_eq_of_lt hl] at h2
  omega
 ·rw [Nat.mod_eq_sub_mod hl,Nat.mod_eq_of_lt (by omega)] at h2
  omega
theorem fld:Ec.Fld pM finv where
 one:=finv_one
 two x h:=Fin.ext (twice_zero pM x.val (by decide +kernel) x.isLt (congrArg Fin.val h))
 noTwo:=no_two
end Cu
end
section
namespace Nm
open Go.RowKit Go.Lib
end Nm
end
section
namespace Cu
open Go.RowKit Sy
abbrev Pt:=Ec.Pt pM
abbrev K4:Nat:=(2^256)
def fws (n:Nat):List Value:=[qv (n%18446744073709551616),qv (n / 18446744073709551616%18446744073709551616),qv (n / 340282366920938463463374607431768211456%18446744073709551616),qv (n / 6277101735386680763835789423207666416102355444464034512896%18446744073709551616)]
theorem fv_fws (n:Nat):fv n=.agg (fws n).toArray:=rfl
def pcs (x y:Nat) (i:Bool):Array Value:=(fws x++(fws y++[Value.bool i])).toArray
def pv (x y:Nat) (i:Bool):Value:=.agg (pcs x y i)
def rightB (x y:Nat) (i:Bool):Bool:=if i then (decide (x=0) && decide (y=0)) else decide (x<pM) && decide (y<pM) && decide (y*y%pM=(x*x%pM*x%pM+7)%pM)
def dec (x y:Nat) (i:Bool):Pt:=if h:i=false∧x<pM∧y<pM∧y*y%pM=(x*x%pM*x%pM+7)%pM then some (⟨x,h.2.1⟩,⟨y,h.2.2.1⟩) else none
def ptv:Pt→Value
 | none=>pv 0 0 true
 | some (x,y)=>pv x.val y.val false
theorem dec_on (x y:Nat) (i:Bool):Ec.On (dec x y i):=by
 unfold dec
 split
 ·rename_i h
  show (_:Fp)*_=_*_*_+7
  refine Fin.ext ?_
  exact h.2.2.2
 ·trivial
theorem dec_fin (x y:Fp) (h:y*y=x*x*x+7):dec x.val y.val false=some (x,y):=by
 unfold dec
 rw [dif_pos ⟨rfl,x.isLt,y.isLt,congrArg Fin.val h⟩]
theorem dec_inf (x y:Nat):dec x y true=none:=by
 unfold dec
 rw [dif_neg (by simp)]
theorem dec_zero:dec 0 0 true=none:=dec_inf 0 0
theorem dec_right (x y:Nat) (h:rightB x y false=true):∃ (hx:x<pM) (hy:y<pM),dec x y false=some (⟨x,hx⟩,⟨y,hy⟩):=by
 unfold rightB at h
 simp only [Bool.false_eq_true,if_false,Bool.and_eq_true,decide_eq_true_eq] at h
 refine ⟨h.1.1,h.1.2,?_⟩
 unfold dec
 rw [dif_pos ⟨rfl,h.1.1,h.1.2,h.2⟩]
theorem dec_wrong (x y:Nat) (i:Bool) (h:rightB x y i=false):dec x y i=none:=by
 unfold rightB at h
 unfold dec
 rw [dif_neg]
 rintro ⟨rfl,h1,h2,h3⟩
 simp [h1,h2,h3] at h
theorem ptv_right (x y:Nat) (i:Bool) (h:rightB x y i=true):ptv (dec x y i)=pv x y i:=by
 cases i
 ·obtain ⟨hx,hy,e⟩:=dec_right x y h
  rw [e]; rfl
 ·unfold rightB at h
  simp only [if_true,Bool.and_eq_true,decide_eq_true_eq] at h
  rw [dec_inf,h.1,h.2]; rfl
theorem ptv_wrong (x y:Nat) (i:Bool) (h:rightB x y i=false):ptv (dec x y i)=pv 0 0 true:=by rw [dec_wrong x y i h]; rfl
theorem ptv_raw (P:Pt) (h:Ec.On P):∃ x y i,x<K4∧y<K4∧ptv P=pv x y i∧dec x y i=P∧rightB x y i=true:=by
 rcases P with _ | ⟨x,y⟩
 ·exact ⟨0,0,true,by decide,by decide,rfl,dec_zero,rfl⟩
 ·refine ⟨x.val,y.val,false,lt4 x,lt4 y,rfl,dec_fin x y h,?_⟩
  unfold rightB
  rw [if_neg (by simp)]
  simp only [Bool.and_eq_true,decide_eq_true_eq]
  exact ⟨⟨x.isLt,y.isLt⟩,congrArg Fin.val h⟩
theorem part_fe (cs:Array Value) (o:Nat) (W:World):(part 64 cs o).run Tryz.prog W=.ok (.agg (cs.extract o (o+4))) W:=by
 have h1:=Tryz.isAgg64
 have h2:=Tryz.sizeOf64
 simp [part,h1,h2,go_sem]
theorem part_bool (cs:Array Value) (o:Nat) (b:Bool) (hb:cs[o]? = some (.bool b)) (W:World):(part 4 cs o).run Tryz.prog W=.ok (.bool b) W:=by
 have h1:=Tryz.isAgg4
 simp [part,h1,hb,go_sem]
theorem pcs_x (x y:Nat) (i:Bool):(pcs x y i).extract 0 (0+4)=fcs x:=rfl
theorem pcs_y (x y:Nat) (i:Bool):(pcs x y i).extract 4 (4+4)=fcs y:=rfl
theorem pcs_i (x y:Nat) (i:Bool):(pcs x y i)[8]? = some (.bool i):=rfl
theorem eql_fe_at (W:World) (n m:Nat) (hn:n<K4) (hm:m<K4):(Op.equalIn 9999 64 (.agg (fcs n)) (.agg (fcs m))).run Tryz.prog W=.ok (decide (n=m)) W:=by
 have h:=run_equalIn_words W 9997 64 28 4 Tryz.underlying64 Tryz.underlying28 (λW=>by kernel_rfl) (wl n) (wl m) rfl rfl
 rw [wl_beq hn hm] at h
 exact h
theorem eql_bool_at (W:World) (a b:Bool):(Op.equalIn 9999 4 (.bool a) (.bool b)).run Tryz.prog W=.ok (a == b) W:=by
 cases a <;> cases b <;> kernel_rfl
def sameB (x y:Nat) (i:Bool) (u v:Nat) (j:Bool):Bool:=decide (x=u) && (decide (y=v) && (i == j))
theorem run_eql_pv (W:World) (x y:Nat) (i:Bool) (u v:Nat) (j:Bool) (hx:x<K4) (hy:y<K4) (hu:u<K4) (hv:v<K4) :
  (binOp .eql 66 (pv x y i) (pv u v j)).run Tryz.prog W=.ok (.bool (sameB x y i u v j)) W:=by
 have hS:Tryz.prog.underlying 66=some (.struct (Tryz.prog.fieldsOf 66)):=by kernel_rfl
 have hpp:Tryz.prog.stoodInHeld 66=false:=by kernel_rfl
 unfold pv
 rw [run_eql_struct,show (10000:Nat)=9999+1 from rfl,run_equalIn_struct W 9999 66 _ _ hS hpp]
 simp only [Program.fieldsOf,Tryz.underlying66]
 have a1:∀ W,(part 64 (pcs x y i) 0).run Tryz.prog W=.ok (.agg (fcs x)) W:=λW=>by rw [part_fe,pcs_x]
 have a2:∀ W,(part 64 (pcs u v j) 0).run Tryz.prog W=.ok (.agg (fcs u)) W:=λW=>by rw [part_fe,pcs_x]
 have a3:∀ W,(part 64 (pcs x y i) 4).run Tryz.prog W=.ok (.agg (fcs y)) W:=λW=>by rw [part_fe,pcs_y]
 have a4:∀ W,(part 64 (pcs u v j) 4).run Tryz.prog W=.ok (.agg (fcs v)) W:=λW=>by rw [part_fe,pcs_y]
 have a5:∀ W,(part 4 (pcs x y i) 8).run Tryz.prog W=.ok (.bool i) W:=λW=>part_bool _ 8 i (pcs_i x y i) W
 have a6:∀ W,(part 4 (pcs u v j) 8).run Tryz.prog W=.ok (.bool j) W:=λW=>part_bool _ 8 j (pcs_i u v j) W
 have e1:∀ W,_:=λW=>eql_fe_at W x u hx hu
 have e2:∀ W,_:=λW=>eql_fe_at W y v hy hv
 have e3:∀ W,_:=λW=>eql_bool_at W i j
 unfold sameB
 generalize decide (x=u)=b1 at *
 generalize decide (y=v)=b2 at *
 generalize (i == j)=b3 at *
 cases b1 <;> cases b2 <;> cases b3 <;> simp [Op.eqFields,a1,a2,a3,a4,a5,a6,e1,e2,e3,Sem.run_bind,Sem.run_ite]
theorem run_eqGuard_pv (op:BinOp) (x y:Operand) (a b:Nat) (i:Bool) (u v:Nat) (j:Bool) (W:World):(eqGuard op 66 x y (pv a b i) (pv u v j)).run Tryz.prog W=.ok () W:=by
 unfold pv
 go_simp
end Cu
end
section
namespace Cu
open Go.RowKit
theorem lK {n:Nat} (h:n<K4:=by first | assumption | exact lt4 _ | decide +kernel):n<K4:=h
end Cu
end
section
namespace Cu
open Go.RowKit Sy
set_option maxRecDepth 100000
set_option maxHeartbeats 4000000
theorem eql_fe (w:World) (F:Slots) (o:Oper) (x y:Operand) (n m:Nat) {yt:TypeId} (ho:o.op=.binOp .eql 64 x y yt) (hx:evF F x=fv n) (hy:evF F y=fv m) (hn:n<K4) (hm:m<K4):(execOp (evF F) o).run Tryz.prog w=.ok (.value (.bool (decide (n=m)))) w:=by
 have h1:=run_eqGuard_fv .eql x y n m w
 have h2:=run_eql_fv w n m hn hm
 unfold execOp
 simp only [ho,hx,hy,Sem.run_bind,h1,h2,Result.andThen_ok,Sem.run_pure]
theorem eql_pt (w:World) (F:Slots) (o:Oper) (x y:Operand) (a b:Nat) (i:Bool) (c d:Nat) (j:Bool) {yt:TypeId} (ho:o.op=.binOp .eql 66 x y yt) (hx:evF F x=pv a b i) (hy:evF F y=pv c d j) (ha:a<K4) (hb:b<K4) (hc:c<K4) (hd:d<K4):(execOp (evF F) o).run Tryz.prog w=.ok (.value (.bool (sameB a b i c d j))) w:=by
 have h1:=run_eqGuard_pv .eql x y a b i c d j w
 have h2:=run_eql_pv w a b i c d j ha hb hc hd
 unfold execOp
 simp only [ho,hx,hy,Sem.run_bind,h1,h2,Result.andThen_ok,Sem.run_pure]
theorem zero_c (w:World)  : Calls Tryz.prog 45 #[] w (Gets w (pv 0 0 true)):=by
 refine Sy.enter (args:=[]) Tryz.func45 rfl kL ?_
 refine sC ?_
 refine sM 66 (pcs 0 0 false) (λg0=>?_)
 refine sA ?_
 refine sP (pv 0 0 true)<|sW 0 g0 66 (pcs 0 0 false) (pcs 0 0 true) (wS 0 66 (pcs 0 0 true) rfl) ?_
 refine sG<|Sy.ret ?_
 exact rC (v:=pv 0 0 true) 66 g0 0 (pcs 0 0 true) rfl Tryz.underlying66
def gx:Fp:=⟨55066263022277343669578718895168534326250603453777594175500187360389116729240,by decide +kernel⟩
def gy:Fp:=⟨32670510020758816978083085130507043184471273380659243275938904335757337482424,by decide +kernel⟩
def bP:Pt:=some (gx,gy)
theorem bP_on:Ec.On bP:=by
 show gy*gy=gx*gx*gx+7
 decide +kernel
theorem base_c (w:World)  : Calls Tryz.prog 27 #[] w (Gets w (ptv bP)):=by
 refine Sy.enter (args:=[]) Tryz.func27 rfl kL ?_
 refine sC ?_
 refine sM 66 (pcs 0 0 false) (λg0=>?_)
 refine sA ?_
 refine sP (fv 55066263022277343669578718895168534326250603453777594175500187360389116729240)<|sP (fv 32670510020758816978083085130507043184471273380659243275938904335757337482424)<|sP (pv 55066263022277343669578718895168534326250603453777594175500187360389116729240 32670510020758816978083085130507043184471273380659243275938904335757337482424 false)<|sW 0 g0 66 (pcs 0 0 false) (pcs 55066263022277343669578718895168534326250603453777594175500187360389116729240 32670510020758816978083085130507043184471273380659243275938904335757337482424 false) (wS 0 66 (pcs 55066263022277343669578718895168534326250603453777594175500187360389116729240 32670510020758816978083085130507043184471273380659243275938904335757337482424 false) rfl) ?_
 refine sG<|Sy.ret ?_
 rw [show (ptv bP:Value)=pv 55066263022277343669578718895168534326250603453777594175500187360389116729240 32670510020758816978083085130507043184471273380659243275938904335757337482424 false from by kernel_rfl]
 exact rC (v:=pv 55066263022277343669578718895168534326250603453777594175500187360389116729240 32670510020758816978083085130507043184471273380659243275938904335757337482424 false) 66 g0 0 (pcs 55066263022277343669578718895168534326250603453777594175500187360389116729240 32670510020758816978083085130507043184471273380659243275938904335757337482424 false) rfl Tryz.underlying66
theorem square_c (w:World) (x:Fp):Calls Tryz.prog 44 #[fv x.val] w (Gets w (fv (x*x*x+7).val)):=by
 refine Sy.enter (args:=[fv x.val]) Tryz.func44 rfl kL ?_
 refine sC ?_
 refine sM 64 (fcs x.val) (λg0=>?_)
 refine sM 64 (fcs 0) (λg1=>?_)
 refine sH (λj=>j == 7) ?_
 refine sD 0 rfl (fv x.val) (qL 0 g0 0 4 64 64 (fcs x.val) rfl Tryz.underlying64)<|sD 1 rfl (fv x.val) (qL 0 g0 0 4 64 64 (fcs x.val) rfl Tryz.underlying64) ?_
 obtain ⟨z1,hz1⟩:∃ z:Fp,z=x*x:=⟨_,rfl⟩
 refine sD 2 rfl (fv z1.val) (qF 71 #[fv x.val,fv x.val] (by rw [hz1]; exact mul_c x x))<|sD 3 rfl (fv x.val) (qL 0 g0 0 4 64 64 (fcs x.val) rfl Tryz.underlying64) ?_
 obtain ⟨z2,hz2⟩:∃ z:Fp,z=z1*x:=⟨_,rfl⟩
 refine sD 4 rfl (fv z2.val) (qF 71 #[fv z1.val,fv x.val] (by rw [hz2]; exact mul_c z1 x)) ?_
 obtain ⟨z3,hz3⟩:∃ z:Fp,z=(nat 7 (by decide +kernel):Fp):=⟨_,rfl⟩
 refine sD 5 rfl (fv z3.val) (qF 74 #[.int .u64 7] (by rw [hz3]; exact of_c 7 (by decide +kernel) (by decide))) ?_
 obtain ⟨z4,hz4⟩:∃ z:Fp,z=z2+z3:=⟨_,rfl⟩
 refine sD 6 rfl (fv z4.val) (qF 73 #[fv z2.val,fv z3.val] (by rw [hz4]; exact add_c z2 z3))<|sX 7 rfl 1 g1 64 (fcs 0) (fcs z4.val) (wS 0 64 (fcs z4.val) rfl) ?_
 refine sI ?_
 refine Sy.ret ?_
 rw [show (fv (x*x*x+7).val:Value)=fv z4.val from by rw [hz4,hz3,hz2,hz1]; rfl]
 exact rC (v:=fv z4.val) 64 g1 1 (fcs z4.val) rfl Tryz.underlying64
theorem rightB_inf (x y:Nat):sameB x y true 0 0 true=rightB x y true:=by
 unfold sameB rightB
 simp
theorem fp_of {x z:Nat} (h1:z=x%pM) (h2:true=decide (z=x)):∃ u:Fp,x=u.val:=by
 have h3:z=x:=of_decide_eq_true h2.symm
 exact ⟨⟨x,by rw [← h3,h1]; exact mod_lt_p x⟩,rfl⟩
theorem not_fp {x z:Nat} (h1:z=x%pM) (h2:false=decide (z=x)):¬ x<pM:=λh=>by
 rw [h1,Nat.mod_eq_of_lt h] at h2
 simp at h2
theorem rb_x {x:Nat} (h:¬ x<pM) (y:Nat):rightB x y false=false:=by unfold rightB; simp [h]
theorem rb_y {y:Nat} (h:¬ y<pM) (x:Nat):rightB x y false=false:=by unfold rightB; simp [h]
theorem rb_xy (x y:Fp):rightB x.val y.val false=decide ((y*y).val=(x*x*x+7).val):=by
 unfold rightB
 simp only [Bool.false_eq_true,if_false,x.isLt,y.isLt,decide_true,Bool.true_and]
 rfl
theorem right_b (w:World) (x y:Nat) (i:Bool) (hx:x<K4) (hy:y<K4):Calls Tryz.prog 79 #[pv x y i] w (Gets w (.bool (rightB x y i))):=by
 refine Sy.enter (args:=[pv x y i]) Tryz.func79 rfl kL ?_
 refine sC ?_
 refine sM 66 (pcs x y i) (λg0=>?_)
 refine sP (.bool false) ?_
 refine sG<|Sy.seq<|sC ?_
 refine sP (.pointer (some ⟨g0,8,none⟩))<|sS (.bool i) (qC 0 g0 8 66 4 (pcs x y i) rfl Tryz.underlying4) ?_
 refine sG ?_
 cases i
 ·refine sU<|Sy.skip ?_
  refine sR (λj=>false) ?_
  refine sZ 0 rfl (.pointer (some ⟨g0,0,none⟩))<|sD 1 rfl (fv x) (qL 0 g0 0 4 66 64 (pcs x y false) rfl Tryz.underlying64) ?_
  obtain ⟨z1,hz1⟩:∃ z:Nat,z=x%pM:=⟨_,rfl⟩
  have lz1:z1<K4:=by rw [hz1]; exact mod_lt x
  refine sD 2 rfl (fv z1) (qF 67 #[fv x] (λw=>by rw [hz1]; exact norm_any w x (by first | assumption | exact lt4 _)))<|sZ 3 rfl (.pointer (some ⟨g0,0,none⟩))<|sD 4 rfl (fv x) (qL 0 g0 0 4 66 64 (pcs x y false) rfl Tryz.underlying64) ?_
  obtain ⟨b1,hb1⟩:∃ z:Bool,z=decide (z1=x):=⟨_,rfl⟩
  refine sD 5 rfl (.bool b1) (Quiet.pure (λw=>by rw [hb1]; exact eql_fe w _ _ _ _ _ _ rfl rfl rfl lK lK))<|sZ 6 rfl (.bool b1) ?_
  cases b1
  ·refine sQ 7 rfl<|sQ 8 rfl<|sQ 9 rfl<|sQ 10 rfl<|sQ 11 rfl<|sQ 12 rfl<|sZ 13 rfl (.bool false)<|sZ 14 rfl (.bool false) ?_
   refine sE ?_
   refine sR (λj=>false) ?_
   refine sZ 0 rfl (.bool false)<|sZ 1 rfl (.bool false)<|sQ 2 rfl<|sQ 3 rfl<|sQ 4 rfl<|sQ 5 rfl<|sQ 6 rfl<|sQ 7 rfl ?_
   refine sQ 8 rfl<|sQ 9 rfl<|sQ 10 rfl<|sZ 11 rfl (.bool false)<|sZ 12 rfl (.bool false) ?_
   refine sI ?_
   refine Sy.ret ?_
   rw [show (.bool (rightB x y false):Value)=.bool false from by rw [rb_x (not_fp hz1 hb1)]]
   exact rV (.bool false) rfl
  ·obtain ⟨ux,rfl⟩:=fp_of hz1 hb1
   refine sZ 7 rfl (.pointer (some ⟨g0,4,none⟩))<|sD 8 rfl (fv y) (qL 0 g0 4 4 66 64 (pcs ux.val y false) rfl Tryz.underlying64) ?_
   obtain ⟨z2,hz2⟩:∃ z:Nat,z=y%pM:=⟨_,rfl⟩
   have lz2:z2<K4:=by rw [hz2]; exact mod_lt y
   refine sD 9 rfl (fv z2) (qF 67 #[fv y] (λw=>by rw [hz2]; exact norm_any w y (by first | assumption | exact lt4 _)))<|sZ 10 rfl (.pointer (some ⟨g0,4,none⟩))<|sD 11 rfl (fv y) (qL 0 g0 4 4 66 64 (pcs ux.val y false) rfl Tryz.underlying64) ?_
   obtain ⟨b2,hb2⟩:∃ z:Bool,z=decide (z2=y):=⟨_,rfl⟩
   refine sD 12 rfl (.bool b2) (Quiet.pure (λw=>by rw [hb2]; exact eql_fe w _ _ _ _ _ _ rfl rfl rfl lK lK))<|sZ 13 rfl (.bool b2)<|sZ 14 rfl (.bool b2) ?_
   refine sE ?_
   refine sR (λj=>false) ?_
   refine sZ 0 rfl (.bool b2)<|sZ 1 rfl (.bool b2) ?_
   cases b2
   ·refine sQ 2 rfl<|sQ 3 rfl<|sQ 4 rfl<|sQ 5 rfl<|sQ 6 rfl<|sQ 7 rfl<|sQ 8 rfl<|sQ 9 rfl ?_
    refine sQ 10 rfl<|sZ 11 rfl (.bool false)<|sZ 12 rfl (.bool false) ?_
    refine sI ?_
    refine Sy.ret ?_
    rw [show (.bool (rightB ux.val y false):Value)=.bool false from by rw [rb_y (not_fp hz2 hb2)]]
    exact rV (.bool false) rfl
   ·obtain ⟨uy,rfl⟩:=fp_of hz2 hb2
    refine sZ 2 rfl (.pointer (some ⟨g0,4,none⟩))<|sD 3 rfl (fv uy.val) (qL 0 g0 4 4 66 64 (pcs ux.val uy.val false) rfl Tryz.underlying64)<|sZ 4 rfl (.pointer (some ⟨g0,4,none⟩))<|sD 5 rfl (fv uy.val) (qL 0 g0 4 4 66 64 (pcs ux.val uy.val false) rfl Tryz.underlying64) ?_
    obtain ⟨z3,hz3⟩:∃ z:Fp,z=uy*uy:=⟨_,rfl⟩
    refine sD 6 rfl (fv z3.val) (qF 71 #[fv uy.val,fv uy.val] (by rw [hz3]; exact mul_c uy uy))<|sZ 7 rfl (.pointer (some ⟨g0,0,none⟩))<|sD 8 rfl (fv ux.val) (qL 0 g0 0 4 66 64 (pcs ux.val uy.val false) rfl Tryz.underlying64) ?_
    obtain ⟨z4,hz4⟩:∃ z:Fp,z=ux*ux*ux+7:=⟨_,rfl⟩
    refine sD 9 rfl (fv z4.val) (qF 44 #[fv ux.val] (by rw [hz4]; exact λw=>square_c w ux)) ?_
    obtain ⟨b3,hb3⟩:∃ z:Bool,z=decide (z3.val=z4.val):=⟨_,rfl⟩
    refine sD 10 rfl (.bool b3) (Quiet.pure (λw=>by rw [hb3]; exact eql_fe w _ _ _ _ _ _ rfl rfl rfl lK lK))<|sZ 11 rfl (.bool b3)<|sZ 12 rfl (.bool b3) ?_
    refine sI ?_
    refine Sy.ret ?_
    rw [show (.bool (rightB ux.val uy.val false):Value)=.bool b3 from by rw [hb3,rb_xy]; simp only [hz3,hz4]]
    exact rV (.bool b3) rfl
 ·refine sT<|Sy.seq ?_
  refine Sy.regionD (λj=>false) kR ?_
  refine sD 0 rfl (pv x y true) (qL 0 g0 0 9 66 66 (pcs x y true) rfl Tryz.underlying66)<|sD 1 rfl (pv 0 0 true) (qF 45 #[] (zero_c)) ?_
  obtain ⟨b4,hb4⟩:∃ z:Bool,z=sameB x y true 0 0 true:=⟨_,rfl⟩
  refine sD 2 rfl (.bool b4) (Quiet.pure (λw=>by rw [hb4]; exact eql_pt w _ _ _ _ _ _ _ _ _ _ rfl rfl rfl lK lK lK lK))<|sZ 3 rfl (.bool b4) ?_
  refine sI ?_
  refine Sy.ret<|Sy.then_ret ?_
  rw [show (.bool (rightB x y true):Value)=.bool b4 from by rw [hb4,rightB_inf]]
  exact rV (.bool b4) rfl
theorem right_c (w:World) (x y:Nat) (i:Bool) (hx:x<K4) (hy:y<K4):Calls Tryz.prog 49 #[pv x y i] w (Gets w (ptv (dec x y i))):=by
 refine Sy.enter (args:=[pv x y i]) Tryz.func49 rfl kL ?_
 refine sC ?_
 refine sM 66 (pcs x y i) (λg0=>?_)
 refine sM 66 (pcs 0 0 false) (λg1=>?_)
 refine sG<|Sy.seq<|sC ?_
 refine sS (pv x y i) (qL 0 g0 0 9 66 66 (pcs x y i) rfl Tryz.underlying66) ?_
 obtain ⟨b1,hb1⟩:∃ z:Bool,z=rightB x y i:=⟨_,rfl⟩
 refine sS (.bool b1) (qF 79 #[pv x y i] (by rw [hb1]; exact λw=>right_b w x y i lK lK)) ?_
 cases b1
 ·refine sP (.bool true) ?_
  refine sG<|sT<|sC ?_
  refine sS (pv 0 0 true) (qF 45 #[] (zero_c))<|sW 1 g1 66 (pcs 0 0 false) (pcs 0 0 true) (wS 0 66 (pcs 0 0 true) rfl) ?_
  refine sG<|Sy.ret<|Sy.then_ret ?_
  rw [show (ptv (dec x y i):Value)=pv 0 0 true from ptv_wrong x y i hb1.symm]
  exact rC (v:=pv 0 0 true) 66 g1 1 (pcs 0 0 true) rfl Tryz.underlying66
 ·refine sP (.bool false) ?_
  refine sG<|sU<|Sy.skip<|sB ?_
  refine sS (pv x y i) (qL 0 g0 0 9 66 66 (pcs x y i) rfl Tryz.underlying66)<|sW 1 g1 66 (pcs 0 0 false) (pcs x y i) (wS 0 66 (pcs x y i) rfl) ?_
  refine sG<|Sy.ret ?_
  rw [show (ptv (dec x y i):Value)=pv x y i from ptv_right x y i hb1.symm]
  exact rC (v:=pv x y i) 66 g1 1 (pcs x y i) rfl Tryz.underlying66
end Cu
end
end Go.Proofs.YtgggdbjakcpanabGreatDoor
