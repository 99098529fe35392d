/-
  Texts of ours, put together: WirN, WirLA, WirNA, WirO, WirX, WirY, WirZ, WirBA, WirBB, WirXB, WirCA, WirCB, WirCC, WirXC, PLift, WirDA.
-/
import Derived.Test.YtdbcombmmnihbaaGreatWB4
set_option linter.unusedVariables false
set_option linter.unusedSimpArgs false
set_option maxRecDepth 100000
set_option maxHeartbeats 40000000
namespace Go.Proofs.YtdbcombmmnihbaaGreat
section
namespace Wr
open Go.RowKit Sy
abbrev CRN (gc gr:Nat) (sl:Value) (e:Nat) (R:AA):AA:=(gc,134,#[.pointer none,ptr gr,.bool false])::RQ gr sl e R
theorem UJ {c r a b:Nat×TypeId×Array Value} {R:AA}:((c::r::R)++[a]++[b]).Perm (c::b::r::a::R):=by
 have h1:((c::r::R)++[a]++[b]).Perm (b::(a::(c::r::R))):=by
  refine (List.perm_append_comm (l₁:=(c::r::R)++[a]) (l₂:=[b])).trans ?_
  exact List.Perm.cons b (List.perm_append_comm (l₁:=c::r::R) (l₂:=[a]))
 refine h1.trans ?_
 have h2:([b,a,c,r]++R).Perm ([c,b,r,a]++R):=(Sy.perm_at [2,0,3,1] kZ (by rfl)).append_right R
 exact h2
def RdV {α:Type} (k:Nat) (rep:Rdr→List Value→α→Prop) (p:Ps α) (w0:Base) (gc gr:Nat) (s:RS) (R S:AA) (v:Value) (M:AA):Prop :=
 ∃ x s' sl' cs N,After p s x s'∧cs.length=k∧(∀ u∈cs,u.oneCell'=true)∧rep (rdB N) cs x∧v=.agg cs.toArray∧s'.e≤200∧s'.rest.length≤s.rest.length∧BytR (rdC w0 S) sl' s'.rest∧M=CRN gc gr sl' s'.e (R++N)
theorem swap12 {a b:Nat×TypeId×Array Value} {R:AA}:(a::b::R).Perm (b::a::R):=List.Perm.swap b a R
def RowsOk {α:Type} (e:TypeId) (k:Nat) (rep:Rdr→List Value→α→Prop) (r:Slc) (N:AA) (l:List α):Prop :=
 ∃ xs:List (List Value),r.Is e k xs∧xs.length=l.length∧∀ (j:Nat) (x:α),l[j]? = some x→∃ cs,xs[j]? = some cs∧rep (rdB N) cs x
theorem RowsOk.nil {α:Type} {e:TypeId} {k:Nat} {rep:Rdr→List Value→α→Prop} {N:AA}:RowsOk e k rep nilS N ([]:List α):=⟨[],Slc.Is.nil _ _,rfl,λj x h=>by cases h⟩
theorem RowsOk.more {α:Type} {e:TypeId} {k:Nat} {rep:Rdr→List Value→α→Prop} (hm:BN rep) {r:Slc} {N N':AA} {l:List α} (h:RowsOk e k rep r N l) (hN:∀ b∈N,b∈N'):RowsOk e k rep r N' l:=by
 obtain ⟨xs,h1,h2,h3⟩:=h
 refine ⟨xs,h1,h2,λj x hx=>?_⟩
 obtain ⟨cs,q1,q2⟩:=h3 j x hx
 exact ⟨cs,q1,hm (AV hN) q2⟩
theorem RowsOk.add {α:Type} {e:TypeId} {k:Nat} {rep:Rdr→List Value→α→Prop} {r':Slc} {N:AA} {l:List α} {xs:List (List Value)} {cs:List Value} {x:α} (h2:xs.length=l.length) (h3:∀ (j:Nat) (x:α),l[j]? = some x→∃ cs,xs[j]? = some cs∧rep (rdB N) cs x) (hr:r'.Is e k (xs++[cs])) (hx:rep (rdB N) cs x):RowsOk e k rep r' N (l++[x]):=by
 refine ⟨xs++[cs],hr,by simp [h2],λj y hy=>?_⟩
 rcases Nat.lt_or_ge j l.length with hlt | hge
 ·rw [List.getElem?_append_left hlt] at hy
  obtain ⟨c,q1,q2⟩:=h3 j y hy
  exact ⟨c,by rw [List.getElem?_append_left om]; exact q1,q2⟩
 ·rw [List.getElem?_append_right hge] at hy
  have hj:j - l.length=0:=by
   have:=(List.getElem?_eq_some_iff.1 hy).1
   simp at this; omega
  rw [hj] at hy
  simp at hy
  subst hy
  exact ⟨cs,by rw [List.getElem?_append_right om,show j - xs.length=0 by omega]; rfl,hx⟩
theorem RowsOk.lst {α:Type} {e:TypeId} {k:Nat} {rep:Rdr→List Value→α→Prop} (hm:BN rep) {r:Slc} {N:AA} {l:List α} (h:RowsOk e k rep r N l):LstR (rdB (N++r.bl)) k rep r.v l:=by
 obtain ⟨xs,h1,h2,h3⟩:=h
 rcases h1.row with ⟨rfl,rfl⟩ | ⟨g,cap,sp,rfl,q1,q2,q3⟩
 ·have:l=[]:=by cases l with | nil=>rfl | cons=>cases h2
  subst this
  exact ⟨none,0,0,rfl,rfl,Nat.le_refl _,Nat.zero_le _,λh=>(h J).elim⟩
 ·rw [h2] at q2
  refine ⟨_,_,_,by rw [h2],rfl,q2,q3,λ_=>⟨g,0,rfl,λj x hx=>?_⟩⟩
  obtain ⟨cs,c1,c2⟩:=h3 j x hx
  have hl:=h1.len _ (List.mem_of_getElem? c1)
  refine ⟨cs,hl,h1.one _ (List.mem_of_getElem? c1),hm (AV λb hb=>List.mem_append_left _ hb) c2,λi u hu=>⟨e,_,List.mem_append_right _ (List.mem_singleton.2 J),?_⟩⟩
  have q:=K_ sp h1.len j cs c1
  have hi:i<k:=by rw [← hl]; exact (List.getElem?_eq_some_iff.1 hu).1
  rw [← q,List.getElem?_take_of_lt hi,List.getElem?_drop] at hu
  rw [Nat.zero_add,List.getElem?_toArray]
  exact hu
structure YL (α:Type) where
 l:List α
 r:Slc
 s:RS
 sl:Value
 N:AA
 x:Option α
theorem apZ {Z:Type} {w0 fz:World} {lp n:Nat} {F:AJ} {L:AA} {FA:Z→AJ} {LA:Z→AA} (z:Z) (hF:∀ p∈FA z,F.lookup p.1=some p.2) (hL:∀ w,St (rb w0 fz lp) w L→St (rb w0 fz lp) w (LA z)):X (rb w0 fz lp) n (APZ w0 fz lp n FA LA) F L .normal:=λ_ w ha hw=>⟨z,ha.all hF,hL w hw⟩
theorem bpZ {Y:Type} {w0 fz:World} {lp n:Nat} {F:AJ} {L:AA} {HR:Y→Prop} {LR:Y→AA} (y:Y) (h:HR y) (hL:∀ w,St (rb w0 fz lp) w L→St (rb w0 fz lp) w (LR y)):X (rb w0 fz lp) n (BPZ w0 fz lp HR LR) F L .normal:=λ_ w _ hw=>⟨y,h,hL w hw⟩
structure InvL {α:Type} (e:TypeId) (k:Nat) (rep:Rdr→List Value→α→Prop) (p:Ps α) (w0:Base) (S:AA) (m:Nat) (s1:RS) (i:Nat) (y:YL α):Prop where
 len:y.l.length=i
 rows:RowsOk e k rep y.r y.N y.l
 yes:y.s.e=0→s1.e=0∧Bz p i s1.rest=some (y.l,y.s.rest)
 no:y.s.e≠0→s1.e≠0∨Bz p m s1.rest=none
 e:y.s.e≤200
 rest:y.s.rest.length≤s1.rest.length
 byt:BytR (rdC w0 S) y.sl y.s.rest
theorem Kb {α:Type} {p:Ps α} {i:Nat} {s s1 s':RS} {l:List α} {x:α} (h:Bz p i s1.rest=some (l,s.rest)) (h0:s.e=0) (hA:After p s x s'):(s'.e=0→Bz p (i+1) s1.rest=some (l++[x],s'.rest))∧(s'.e≠0→∀ m,i<m→Bz p m s1.rest=none):=by
 refine ⟨λh1=>?_,λh1 m hm=>?_⟩
 ·rw [EC,bind_some h,bind_some (hA.ok h0 h1)]; rfl
 ·refine JB (i:=i+1) ?_ m hm
  rw [EC,bind_some h]
  cases hp:p s.rest with
  | none=>exact bind_none hp
  | some u=>obtain ⟨y,r⟩:=u; obtain ⟨_,hs⟩:=hA.yes y r h0 hp; rw [hs] at h1; exact (h1 J).elim
abbrev LBL (gc gr gl:Nat) (ts:TypeId) (r:Slc) (e:Nat) (sl:Value) (R N:AA):AA:=[(gc,134,#[.pointer none,ptr gr,.bool false]),(gr,253,#[sl,.int .i64 (e:Int)]),(gl,ts,#[r.v])]++(r.bl++(R++N))
theorem DR {gc gr gl:Nat} {ts:TypeId} {r:Slc} {e:Nat} {sl:Value} {R N:AA}:∀ b∈R,b∈LBL gc gr gl ts r e sl R N:=λb hb=>List.mem_append_right _ (List.mem_append_right _ (List.mem_append_left _ hb))
def Iz {α:Type} (k:Nat) (rep:Rdr→List Value→α→Prop) (C:Rdr) (cs:List Value) (l:List α):Prop:=∃ v,cs=[v]∧LstR C k rep v l
theorem LstR.cells {α:Type} {C:Rdr} {k:Nat} {rep:Rdr→List Value→α→Prop} {v:Value} {l:List α} (h:LstR C k rep v l):v.cells=#[v]∧v.oneCell'=true:=by
 obtain ⟨A,n,cp,rfl,_⟩:=h; exact ⟨rfl,rfl⟩
def RdL {α:Type} (k:Nat) (rep:Rdr→List Value→α→Prop) (p:Ps (List α)) (w0:Base) (gc gr:Nat) (s:RS) (R S:AA) (v:Value) (M:AA):Prop :=
 ∃ l s' sl' N,After p s l s'∧LstR (rdB N) k rep v l∧s'.e≤200∧s'.rest.length≤s.rest.length∧BytR (rdC w0 S) sl' s'.rest∧M=CRN gc gr sl' s'.e (R++N)
theorem P7 {c r g:Nat×TypeId×Array Value} {R M:AA}:((c::r::R)++[g]++M).Perm ([c,r,g]++(nilS.bl++((R++M)++[]))) :=
 Sy.flat_perm (ls:=[[c,r],R,[g],M]) (ms:=[[c,r],[g],R,M]) [0,2,1,3] kZ (by rfl) (by simp) (by simp [nilS])
theorem Bs {a b c:Nat×TypeId×Array Value} {R:AA}:(a::b::c::R).Perm (a::c::b::R):=List.Perm.cons a (List.Perm.swap c b R)
def OwnAt (R:AA) (gx f:Nat) (cs:List Value):Prop:=∃ tx A Z,(gx,tx,(A++(cs++Z)).toArray)∈R∧A.length=f
theorem OwnAt.at {R:AA} {gx f:Nat} {cs:List Value} (h:OwnAt R gx f cs) (w0:Base):XAt (rdC w0 R) gx f cs:=λi u hu=>by
 obtain ⟨tx,A,Z,hm,rfl⟩:=h
 refine .inr ⟨tx,_,hm,?_⟩
 rw [List.getElem?_toArray,List.getElem?_append_right om,Nat.add_sub_cancel_left,List.getElem?_append_left (List.getElem?_eq_some_iff.1 hu).1]
 exact hu
def Fw {α:Type} (fn:FuncId) (k:Nat) (rep:Rdr→List Value→α→Prop) (ok:α→Bool) (enc:α→Byt) (wt:α→Nat):Prop :=
 ∀ (w0:Base) (gc gw gx f:Nat) (bad:Bool) (s:Slc) (R:AA) (b:Byt) (cs:List Value) (x:α),rep (rdC w0 R) cs x→cs.length=k→OwnAt R gx f cs→BS s b→b.length+wt x≤70368744170000→∀ w,St w0 w (CWS gc gw bad s R) →
  Calls Tryz.prog fn #[ptr gc,pT gx f] w (AQ w0 (WrC gc gw R (ok x) (enc x) (wt x) bad b))
theorem VV {R:AA} {g:Nat} {t:TypeId} {cs:List Value} (h:(g,t,cs.toArray)∈R):OwnAt R g 0 cs:=⟨t,[],[],by rw [List.append_nil]; exact h,rfl⟩
theorem PutC.own {α:Type} {fn:FuncId} {k:Nat} {rep:Rdr→List Value→α→Prop} {ok:α→Bool} {enc:α→Byt} {wt:α→Nat} (h:PutC fn k rep ok enc wt):Fw fn k rep ok enc wt:=λw0 gc gw gx f bad s R b cs x hx hl hc hb hlen w hw=>h w0 gc gw gx f bad s R b cs x hx hl (hc.at w0) hb hlen w hw
structure LK where
 te:TypeId
 ts:TypeId
 ps:TypeId
 pt:TypeId
 fw:TypeId
 fr:TypeId
 fq:TypeId
 sq:TypeId
 gy:TypeId
 fy:TypeId
 f0:FuncId
 fL:FuncId
 f1:FuncId
 fP:FuncId
 f2:FuncId
 fI:FuncId
 fJ:FuncId
 fe:FuncId
 k:Nat
 by_:Nat
 z:List Value
 inf:TypeInfo
def WK (nm : String) (tn : Array String) (K : LK) : Func := {name := nm,origin := "tollhouse/wire.list",targs :=  #[K.te],params :=  #[85,K.ps,3,K.fw],resultTypes :=  #[],nfree := 0,ntmps := 41,results :=  #[],body := some (.seq (.region 0  #[⟨some 4,.box 85 (.tmp 0),0,"coder.go:63",#[],none⟩,⟨some 7,.box K.fw (.tmp 3),0,"coder.go:63",#[],none⟩] false) (.seq (.seq (.region 1  #[⟨some 8,.load 85 (.tmp 4),85,"coder.go:64",#[],none⟩,⟨some 9,.call ⟨.value (.func 100),#[.tmp 8],#[85]⟩,4,"coder.go:64",#[⟨0,.data⟩],none⟩] false) (.cond (.tmp 9) (.seq (.region 2  #[⟨some 10,.move (.tmp 1),K.ps,"coder.go:65",#[],none⟩,⟨some 11,.load 85 (.tmp 4),85,"coder.go:65",#[],none⟩,⟨some 12,.nilCheck (.tmp 11),0,"coder.go:65",#[⟨1,.data⟩],none⟩,⟨some 13,.fieldAddr 134 (.tmp 12) 1,0,"coder.go:65",#[⟨2,.data⟩],none⟩,⟨some 14,.load 132 (.tmp 13),132,"coder.go:65",#[⟨3,.data⟩],none⟩,⟨some 15,.move (.tmp 2),3,"coder.go:65",#[],none⟩,⟨some 16,.makeFunc (.func K.f1) #[] #[.tmp 7,.tmp 4],K.fr,"coder.go:65",#[],none⟩,⟨some 17,.call ⟨.value (.func K.fL),#[.tmp 14,.tmp 15,.tmp 16],#[132,3,K.fr]⟩,K.ts,"coder.go:65",#[⟨4,.data⟩,⟨5,.data⟩,⟨6,.data⟩],none⟩,⟨some 18,.nilCheck (.tmp 10),0,"coder.go:65",#[⟨0,.data⟩,⟨0,.phase⟩,⟨1,.phase⟩,⟨2,.phase⟩,⟨3,.phase⟩,⟨4,.phase⟩,⟨5,.phase⟩,⟨6,.phase⟩,⟨7,.phase⟩],none⟩,⟨none,.store K.ts (.tmp 18) (.tmp 17),0,"coder.go:65",#[⟨8,.data⟩,⟨7,.data⟩,⟨7,.chain⟩,⟨0,.phase⟩,⟨1,.phase⟩,⟨2,.phase⟩,⟨3,.phase⟩,⟨4,.phase⟩,⟨5,.phase⟩,⟨6,.phase⟩,⟨7,.phase⟩],none⟩] false) .ret) .skip)) (.seq (.region 3  #[⟨some 19,.load 85 (.tmp 4),85,"coder.go:72",#[],none⟩,⟨some 20,.move (.tmp 1),K.ps,"coder.go:72",#[],none⟩,⟨some 21,.nilCheck (.tmp 20),0,"coder.go:72",#[⟨1,.data⟩],none⟩,⟨some 22,.load K.ts (.tmp 21),K.ts,"coder.go:72",#[⟨2,.data⟩],none⟩,⟨some 23,.call ⟨.builtin .len,#[.tmp 22],#[K.ts]⟩,3,"coder.go:72",#[⟨3,.data⟩],none⟩,⟨some 24,.move (.tmp 2),3,"coder.go:72",#[],none⟩,⟨some 25,.binOp .leq 3 (.tmp 23) (.tmp 24) 3,4,"coder.go:72",#[⟨4,.data⟩,⟨5,.data⟩],none⟩,⟨some 26,.call ⟨.value (.func 90),#[.tmp 19,.tmp 25],#[85,4]⟩,0,"coder.go:72",#[⟨0,.data⟩,⟨6,.data⟩],none⟩] true) (.seq (.region 4  #[⟨some 27,.load 85 (.tmp 4),85,"coder.go:74",#[],none⟩,⟨some 28,.nilCheck (.tmp 27),0,"coder.go:74",#[⟨0,.data⟩],none⟩,⟨some 29,.fieldAddr 134 (.tmp 28) 2,0,"coder.go:74",#[⟨1,.data⟩],none⟩,⟨some 30,.load 4 (.tmp 29),4,"coder.go:74",#[⟨2,.data⟩],none⟩,⟨some 31,.unOp .not 4 (.tmp 30),4,"coder.go:74",#[⟨3,.data⟩],none⟩] false) (.cond (.tmp 31) (.region 5  #[⟨some 32,.load 85 (.tmp 4),85,"coder.go:75",#[],none⟩,⟨some 33,.nilCheck (.tmp 32),0,"coder.go:75",#[⟨0,.data⟩],none⟩,⟨some 34,.fieldAddr 134 (.tmp 33) 0,0,"coder.go:75",#[⟨1,.data⟩],none⟩,⟨some 35,.load 130 (.tmp 34),130,"coder.go:75",#[⟨2,.data⟩],none⟩,⟨some 36,.move (.tmp 1),K.ps,"coder.go:75",#[],none⟩,⟨some 37,.nilCheck (.tmp 36),0,"coder.go:75",#[⟨4,.data⟩],none⟩,⟨some 38,.load K.ts (.tmp 37),K.ts,"coder.go:75",#[⟨5,.data⟩],none⟩,⟨some 39,.makeFunc (.func K.f2) #[] #[.tmp 7,.tmp 4],K.fq,"coder.go:75",#[],none⟩,⟨some 40,.call ⟨.value (.func K.fP),#[.tmp 35,.tmp 38,.tmp 39],#[130,K.ts,K.fq]⟩,0,"coder.go:75",#[⟨3,.data⟩,⟨6,.data⟩,⟨7,.data⟩],none⟩] true) .skip))))),norace := false,file := "tollhouse/wire/coder.go",endLine := 77,tmpNames := tn}
def WF (nm : String) (tn : Array String) (K : LK) : Func := {name := nm,origin := "tollhouse/codec.List",targs :=  #[K.te],params :=  #[132,3,K.fr],resultTypes :=  #[K.ts],nfree := 0,ntmps := 24,results :=  #[.tmp 6],body := some (.seq (.region 0  #[⟨some 6,.assign (.const (.slice none 0 0)),K.ts,"list.go:18",#[],none⟩] false) (.seq (.region 1  #[⟨some 7,.alloc K.ts,0,"list.go:20",#[],none⟩] false) (.seq (.seq (.region 2  #[⟨some 10,.move (.tmp 0),132,"list.go:21",#[],none⟩,⟨some 11,.move (.tmp 1),3,"list.go:21",#[],none⟩,⟨some 12,.move (.tmp 2),K.fr,"list.go:21",#[],none⟩,⟨some 13,.call ⟨.value (.func K.fI),#[.tmp 10,.tmp 11,.tmp 12],#[132,3,K.fr]⟩,K.sq,"list.go:21",#[⟨0,.data⟩,⟨1,.data⟩,⟨2,.data⟩],none⟩] false) (.block 0 (.rangeFunc (.tmp 13) #[14,15] (.region 3  #[⟨some 9,.alloc K.te,0,"list.go:21",#[],none⟩,⟨none,.store K.te (.tmp 9) (.tmp 15),0,"list.go:21",#[⟨0,.data⟩,⟨0,.phase⟩],none⟩] false) (.block 1 (.region 4  #[⟨some 16,.load K.ts (.tmp 7),K.ts,"list.go:22",#[],none⟩,⟨some 17,.load K.te (.tmp 9),K.te,"list.go:22",#[],none⟩,⟨some 18,.buildSlice K.ts 1  #[(0,.tmp 17)],K.ts,"list.go:22",#[⟨1,.data⟩],none⟩,⟨some 19,.call ⟨.builtin .append,#[.tmp 16,.tmp 18],#[K.ts,K.ts]⟩,K.ts,"list.go:22",#[⟨0,.data⟩,⟨2,.data⟩],none⟩,⟨none,.store K.ts (.tmp 7) (.tmp 19),0,"list.go:22",#[⟨3,.data⟩,⟨3,.chain⟩,⟨0,.phase⟩,⟨1,.phase⟩,⟨2,.phase⟩,⟨3,.phase⟩],none⟩] false))))) (.seq (.seq (.region 5  #[⟨some 20,.move (.tmp 0),132,"list.go:24",#[],none⟩,⟨some 21,.call ⟨.value (.func 164),#[.tmp 20],#[132]⟩,28,"list.go:24",#[⟨0,.data⟩],none⟩,⟨some 22,.binOp .neq 28 (.tmp 21) (.const (.int .i64 0)) 28,4,"list.go:24",#[⟨1,.data⟩],none⟩] false) (.cond (.tmp 22) (.seq (.region 6  #[⟨some 6,.assign (.const (.slice none 0 0)),K.ts,"list.go:25",#[],none⟩] false) .ret) .skip)) (.seq (.region 7  #[⟨some 23,.load K.ts (.tmp 7),K.ts,"list.go:27",#[],none⟩,⟨some 6,.assign (.tmp 23),K.ts,"list.go:27",#[⟨0,.data⟩,⟨0,.phase⟩],none⟩] false) .ret))))),norace := false,file := "tollhouse/codec/list.go",endLine := 28,tmpNames := tn}
def WJ (nm : String) (tn : Array String) (K : LK) : Func := {name := nm,origin := "",params :=  #[132],resultTypes :=  #[K.te],nfree := 2,ntmps := 10,results :=  #[.cell 4 K.te],body := some (.seq (.region 0  #[⟨some 4,.alloc K.te,0,"coder.go:65",#[],none⟩] false) (.seq (.region 1  #[⟨some 5,.alloc K.te,0,"coder.go:66",#[],none⟩] false) (.seq (.region 2  #[⟨some 6,.load K.fw (.tmp 1),K.fw,"coder.go:67",#[],none⟩,⟨some 7,.load 85 (.tmp 2),85,"coder.go:67",#[],none⟩,⟨some 8,.call ⟨.value (.tmp 6),#[.tmp 7,.tmp 5],#[85,K.pt]⟩,0,"coder.go:67",#[⟨0,.data⟩,⟨1,.data⟩],none⟩] false) (.seq (.region 3  #[⟨some 9,.load K.te (.tmp 5),K.te,"coder.go:68",#[],none⟩,⟨none,.store K.te (.tmp 4) (.tmp 9),0,"coder.go:68",#[⟨0,.data⟩,⟨0,.phase⟩],none⟩] false) .ret)))),norace := false,file := "tollhouse/wire/coder.go",endLine := 69,tmpNames := tn}
def WE (nm : String) (tn : Array String) (K : LK) : Func := {name := nm,origin := "tollhouse/codec.Put",targs :=  #[K.te],params :=  #[130,K.ts,K.fq],resultTypes :=  #[],nfree := 0,ntmps := 24,results :=  #[],body := some (.seq (.region 0  #[⟨some 8,.move (.tmp 0),130,"list.go:11",#[],none⟩,⟨some 9,.move (.tmp 1),K.ts,"list.go:11",#[],none⟩,⟨some 10,.call ⟨.builtin .len,#[.tmp 9],#[K.ts]⟩,3,"list.go:11",#[⟨1,.data⟩],none⟩,⟨some 11,.convert 3 22 (.tmp 10),22,"list.go:11",#[⟨2,.data⟩],none⟩,⟨some 12,.call ⟨.value (.func 165),#[.tmp 8,.tmp 11],#[130,22]⟩,0,"list.go:11",#[⟨0,.data⟩,⟨3,.data⟩],none⟩] false) (.seq (.region 1  #[⟨some 13,.move (.tmp 1),K.ts,"list.go:12",#[],none⟩,⟨some 14,.call ⟨.builtin .len,#[.tmp 13],#[K.ts]⟩,3,"list.go:12",#[⟨0,.data⟩],none⟩,⟨some 15,.move (.const (.int .i64 0)),3,"list.go:12",#[],none⟩] false) (.block 0 (.loop (.seq (.region 2  #[⟨some 16,.binOp .lss 3 (.tmp 15) (.tmp 14) 3,0,"list.go:12",#[],none⟩] false) (.seq (.cond (.tmp 16) .skip (.exit 0)) (.seq (.block 1 (.seq (.region 3  #[⟨some 17,.indexAddr K.ts (.tmp 13) (.tmp 15),0,"list.go:12",#[],none⟩,⟨some 18,.load K.te (.tmp 17),K.te,"list.go:12",#[⟨0,.data⟩],none⟩,⟨some 7,.alloc K.te,0,"list.go:12",#[],none⟩,⟨none,.store K.te (.tmp 7) (.tmp 18),0,"list.go:12",#[⟨2,.data⟩,⟨1,.data⟩,⟨0,.phase⟩,⟨1,.phase⟩,⟨2,.phase⟩],none⟩] false) (.region 4  #[⟨some 19,.move (.tmp 2),K.fq,"list.go:13",#[],none⟩,⟨some 20,.move (.tmp 0),130,"list.go:13",#[],none⟩,⟨some 21,.load K.te (.tmp 7),K.te,"list.go:13",#[],none⟩,⟨some 22,.call ⟨.value (.tmp 19),#[.tmp 20,.tmp 21],#[130,K.te]⟩,0,"list.go:13",#[⟨0,.data⟩,⟨1,.data⟩,⟨2,.data⟩],none⟩] false))) (.region 5  #[⟨some 23,.binOp .add 3 (.tmp 15) (.const (.int .i64 1)) 3,3,"list.go:12",#[],none⟩,⟨some 15,.move (.tmp 23),3,"list.go:12",#[⟨0,.data⟩],none⟩] false)))))))),norace := false,file := "tollhouse/codec/list.go",endLine := 15,tmpNames := tn}
def WI (nm : String) (tn : Array String) (K : LK) : Func := {name := nm,origin := "",params :=  #[130,K.te],resultTypes :=  #[],nfree := 2,ntmps := 9,results :=  #[],body := some (.seq (.region 0  #[⟨some 5,.box K.te (.tmp 1),0,"coder.go:75",#[],none⟩] false) (.region 1  #[⟨some 6,.load K.fw (.tmp 2),K.fw,"coder.go:75",#[],none⟩,⟨some 7,.load 85 (.tmp 3),85,"coder.go:75",#[],none⟩,⟨some 8,.call ⟨.value (.tmp 6),#[.tmp 7,.tmp 5],#[85,K.pt]⟩,0,"coder.go:75",#[⟨0,.data⟩,⟨1,.data⟩],none⟩] false)),norace := false,file := "tollhouse/wire/coder.go",endLine := 75,tmpNames := tn}
def WH (nm : String) (tn : Array String) (K : LK) : Func := {name := nm,origin := "tollhouse/codec.Items",targs :=  #[K.te],params :=  #[132,3,K.fr],resultTypes :=  #[K.sq],nfree := 0,ntmps := 8,results :=  #[.tmp 6],body := some (.seq (.region 0  #[⟨some 3,.box 132 (.tmp 0),0,"list.go:31",#[],none⟩,⟨some 4,.box 3 (.tmp 1),0,"list.go:31",#[],none⟩,⟨some 5,.box K.fr (.tmp 2),0,"list.go:31",#[],none⟩,⟨some 6,.assign (.const .nilFunc),K.sq,"list.go:31",#[],none⟩] false) (.seq (.region 1  #[⟨some 7,.makeFunc (.func K.fJ) #[] #[.tmp 3,.tmp 4,.tmp 5],K.gy,"list.go:32",#[],none⟩,⟨some 6,.assign (.tmp 7),K.sq,"list.go:32",#[⟨0,.data⟩,⟨0,.phase⟩],none⟩] false) .ret)),norace := false,file := "tollhouse/codec/list.go",endLine := 42,tmpNames := tn}
def WG (nm : String) (tn : Array String) (K : LK) : Func := {name := nm,origin := "",params :=  #[K.fy],resultTypes :=  #[],nfree := 3,ntmps := 34,results :=  #[],body := some (.seq (.region 0  #[⟨some 8,.load 132 (.tmp 1),132,"list.go:33",#[],none⟩,⟨some 9,.load 3 (.tmp 2),3,"list.go:33",#[],none⟩,⟨some 10,.call ⟨.value (.func 200),#[.tmp 8,.tmp 9],#[132,3]⟩,3,"list.go:33",#[⟨0,.data⟩,⟨1,.data⟩],none⟩,⟨some 5,.assign (.tmp 10),3,"list.go:33",#[⟨2,.data⟩,⟨2,.chain⟩,⟨0,.phase⟩,⟨1,.phase⟩,⟨2,.phase⟩],none⟩] false) (.seq (.region 1  #[⟨some 6,.assign (.const (.int .i64 0)),3,"list.go:35",#[],none⟩] false) (.block 0 (.loop (.seq (.seq (.region 2  #[⟨some 11,.move (.tmp 6),3,"list.go:35",#[],none⟩,⟨some 12,.move (.tmp 5),3,"list.go:35",#[],none⟩,⟨some 13,.binOp .lss 3 (.tmp 11) (.tmp 12) 3,4,"list.go:35",#[⟨0,.data⟩,⟨1,.data⟩],none⟩,⟨some 14,.move (.tmp 13),4,"list.go:35",#[⟨2,.data⟩],none⟩,⟨some 15,.load 132 (.tmp 1),132,"list.go:35",#[⟨3,.guard⟩],some (3,true)⟩,⟨some 16,.call ⟨.value (.func 164),#[.tmp 15],#[132]⟩,28,"list.go:35",#[⟨4,.data⟩,⟨3,.chain⟩,⟨3,.guard⟩],some (3,true)⟩,⟨some 17,.binOp .eql 28 (.tmp 16) (.const (.int .i64 0)) 28,4,"list.go:35",#[⟨5,.data⟩,⟨3,.guard⟩],some (3,true)⟩,⟨some 18,.pick (.tmp 14) (.tmp 17) (.const (.bool false)),4,"list.go:35",#[⟨3,.data⟩,⟨6,.data⟩],none⟩] false) (.cond (.tmp 18) .skip (.exit 0))) (.seq (.block 1 (.seq (.region 4  #[⟨some 21,.load K.fr (.tmp 3),K.fr,"list.go:36",#[],none⟩,⟨some 22,.load 132 (.tmp 1),132,"list.go:36",#[],none⟩,⟨some 23,.call ⟨.value (.tmp 21),#[.tmp 22],#[132]⟩,K.te,"list.go:36",#[⟨0,.data⟩,⟨1,.data⟩],none⟩,⟨some 7,.alloc K.te,0,"list.go:36",#[],none⟩,⟨none,.store K.te (.tmp 7) (.tmp 23),0,"list.go:36",#[⟨3,.data⟩,⟨2,.data⟩,⟨2,.chain⟩,⟨0,.phase⟩,⟨1,.phase⟩,⟨2,.phase⟩,⟨3,.phase⟩],none⟩] false) (.seq (.region 5  #[⟨some 24,.load 132 (.tmp 1),132,"list.go:37",#[],none⟩,⟨some 25,.call ⟨.value (.func 164),#[.tmp 24],#[132]⟩,28,"list.go:37",#[⟨0,.data⟩],none⟩,⟨some 26,.binOp .neq 28 (.tmp 25) (.const (.int .i64 0)) 28,4,"list.go:37",#[⟨1,.data⟩],none⟩,⟨some 27,.move (.tmp 26),4,"list.go:37",#[⟨2,.data⟩,⟨1,.chain⟩],none⟩,⟨some 28,.move (.tmp 0),K.fy,"list.go:37",#[⟨3,.guard⟩],some (3,false)⟩,⟨some 29,.move (.tmp 6),3,"list.go:37",#[⟨3,.guard⟩],some (3,false)⟩,⟨some 30,.load K.te (.tmp 7),K.te,"list.go:37",#[⟨3,.guard⟩],some (3,false)⟩,⟨some 31,.call ⟨.value (.tmp 28),#[.tmp 29,.tmp 30],#[3,K.te]⟩,4,"list.go:37",#[⟨4,.data⟩,⟨5,.data⟩,⟨6,.data⟩,⟨3,.chain⟩,⟨3,.guard⟩],some (3,false)⟩,⟨some 32,.unOp .not 4 (.tmp 31),4,"list.go:37",#[⟨7,.data⟩,⟨3,.guard⟩],some (3,false)⟩,⟨some 33,.pick (.tmp 27) (.const (.bool true)) (.tmp 32),4,"list.go:37",#[⟨3,.data⟩,⟨8,.data⟩],none⟩] false) (.cond (.tmp 33) .ret .skip)))) (.region 3  #[⟨some 19,.move (.tmp 6),3,"list.go:35",#[],none⟩,⟨some 20,.binOp .add 3 (.tmp 19) (.const (.int .i64 1)) 3,3,"list.go:35",#[⟨0,.data⟩],none⟩,⟨some 6,.assign (.tmp 20),3,"list.go:35",#[⟨1,.data⟩,⟨0,.phase⟩,⟨1,.phase⟩],none⟩] false))))))),norace := false,file := "tollhouse/codec/list.go",endLine := 41,tmpNames := tn}
structure LK.Ok (K:LK):Prop where
 c_f0:∃ nm tn,Tryz.prog.funcs[K.f0]? = some (WK nm tn K)
 c_fL:∃ nm tn,Tryz.prog.funcs[K.fL]? = some (WF nm tn K)
 c_f1:∃ nm tn,Tryz.prog.funcs[K.f1]? = some (WJ nm tn K)
 c_fP:∃ nm tn,Tryz.prog.funcs[K.fP]? = some (WE nm tn K)
 c_f2:∃ nm tn,Tryz.prog.funcs[K.f2]? = some (WI nm tn K)
 c_fI:∃ nm tn,Tryz.prog.funcs[K.fI]? = some (WH nm tn K)
 c_fJ:∃ nm tn,Tryz.prog.funcs[K.fJ]? = some (WG nm tn K)
 ute:∃ d,Tryz.prog.underlying K.te=some d∧d.isRow=true
 uts:Tryz.prog.underlying K.ts=some (.slice K.te)
 ufw:∃ d,Tryz.prog.underlying K.fw=some d∧d.isRow=false
 ufr:∃ d,Tryz.prog.underlying K.fr=some d∧d.isRow=false
 inf:Tryz.prog.info? K.te=some K.inf
 zero:∃ v,K.inf.zero=some v∧v.cells=K.z.toArray
 size:K.inf.size=K.k
 byt:K.inf.bytes=K.by_
 zl:K.z.length=K.k
 pos:0<K.k
 top:K.k≤16777216
 btop:K.by_≤100000000
 its:(Tryz.prog.info? K.ts).map (·.size)=some 1
 zts:∃ i,Tryz.prog.info? K.ts=some i∧i.zero=some (.slice none 0 0)
 e_fe:∀ args w,(callFunc K.fe args).run Tryz.prog w=.ok (.enter K.fe args) w
 e_f2:∀ args w,(callFunc K.f2 args).run Tryz.prog w=.ok (.enter K.f2 args) w
 e_fP:∀ args w,(callFunc K.fP args).run Tryz.prog w=.ok (.enter K.fP args) w
 e_f1:∀ args w,(callFunc K.f1 args).run Tryz.prog w=.ok (.enter K.f1 args) w
 e_fL:∀ args w,(callFunc K.fL args).run Tryz.prog w=.ok (.enter K.fL args) w
 e_fI:∀ args w,(callFunc K.fI args).run Tryz.prog w=.ok (.enter K.fI args) w
 e_fJ:∀ args w,(callFunc K.fJ args).run Tryz.prog w=.ok (.enter K.fJ args) w
 ifw:(Tryz.prog.info? K.fw).map (·.size)=some 1
 ifr:(Tryz.prog.info? K.fr).map (·.size)=some 1
theorem Jl {P:Program} {F:AJ} {o:Oper} {x:Operand} {t e:TypeId} {A:Option Addr} {n cp:Nat} (ho:o.op=.call ⟨.builtin .len,#[x],#[t]⟩) (hx:evF F x=.slice A n cp) (ht:P.underlying t=some (.slice e)) (w:World):(execOp (evF F) o).run P w=.ok (.value (.int .i64 (n:Int))) w:=by
 unfold execOp
 simp only [ho]
 unfold resolve
 simp [hx,invoke,builtin,Builtin.len_,run_underlying ht,Sem.run_bind,Result.andThen,goInt]
theorem C7 {P:Program} {F:AJ} {o:Oper} {x:Operand} {xs:Array Operand} {ats:Array TypeId} {f:FuncId} {fv args:Array Value} {w:World} (ho:o.op=.call ⟨.value x,xs,ats⟩) (hx:evF F x=.func (.func f) #[] fv) (ha:xs.map (evF F)++fv=args) (he:(callFunc f args).run P w=.ok (.enter f args) w):(execOp (evF F) o).run P w=.ok (.enter f args) w:=by
 subst ha
 unfold execOp
 simp only [ho]
 unfold resolve
 simp [hx,Deferred.ofValue,invoke,he]
theorem LK.Ok.so {K:LK} (hK:K.Ok) (w:World):(sizeOf K.te).run Tryz.prog w=.ok K.k w:=by
 have h:=hK.inf
 unfold sizeOf typeInfo
 simp [Sem.run_bind,h,Result.andThen,hK.size]
theorem LK.Ok.allocS {K:LK} (hK:K.Ok) {F:AJ} {o:Oper} (ho:o.op=.alloc K.ts) (w:World):(execOp (evF F) o).run Tryz.prog w=.ok (.value (ptr w.heap.size)) (w.alloc (.cells #[.slice none 0 0] K.ts)):=by
 obtain ⟨i,h1,h2⟩:=hK.zts
 unfold execOp
 simp only [ho]
 have hz:(zeroValue K.ts).run Tryz.prog w=.ok (.slice none 0 0) w:=by
  unfold zeroValue typeInfo
  simp [Sem.run_bind,h1,h2,Result.andThen]
 simp [Instr.alloc,hz,newVar,newRow,ptr,Result.andThen,Sem.run_bind,Value.cells]
theorem LK.Ok.ite {K:LK} (hK:K.Ok):(Tryz.prog.info? K.te).map (·.size)=some K.k:=by rw [hK.inf]; exact congrArg some hK.size
theorem H8 {P:Program} {F:AJ} {o:Oper} {t:TypeId} {x:Operand} {v:Value} (ho:o.op=.box t x) (hx:evF F x=v) (hc:v.cells=#[v]) (hi:(P.info? t).map (·.size)=some 1) (w:World):(execOp (evF F) o).run P w=.ok (.value (ptr w.heap.size)) (w.alloc (.cells #[v] t)):=by
 unfold execOp
 simp only [ho,hx,Sem.run_bind,Instr.box]
 simp [newVar,newRow,hc,ptr,Result.andThen]
theorem LK.Ok.alloc {K:LK} (hK:K.Ok) {F:AJ} {o:Oper} (ho:o.op=.alloc K.te) (w:World):(execOp (evF F) o).run Tryz.prog w=.ok (.value (ptr w.heap.size)) (w.alloc (.cells K.z.toArray K.te)):=by
 obtain ⟨v,h1,h2⟩:=hK.zero
 unfold execOp
 simp only [ho]
 have hz:(zeroValue K.te).run Tryz.prog w=.ok v w:=by
  unfold zeroValue typeInfo
  simp [Sem.run_bind,hK.inf,h1,Result.andThen]
 simp [Instr.alloc,hz,h2,newVar,newRow,ptr,Result.andThen,Sem.run_bind]
section
variable {α:Type} {rep:Rdr→List Value→α→Prop} {ok:α→Bool} {enc:α→Byt} {wt:α→Nat}
theorem Vw {K:LK} (hK:K.Ok) (hm:BN rep) (hp:Fw K.fe K.k rep ok enc wt) (w0:Base) (gc gw g4 g7:Nat) (bad:Bool) (s:Slc) (R:AA) (b:Byt) (u:Value) (cs:List Value) (x:α) (h4:(g4,85,#[ptr gc])∈R) (h7:(g7,K.fw,#[.func (.func K.fe) #[] #[]])∈R) (hx:rep (rdC w0 R) cs x) (hl:cs.length=K.k) (hb:BS s b) (hlen:b.length+wt x≤70368744170000) (w:World) (hw:St w0 w (CWS gc gw bad s R)) :
  AL K.f2 #[u,.agg cs.toArray,ptr g7,ptr g4] w (AQ w0 (WrC gc gw R (ok x) (enc x) (wt x) bad b)):=by
 obtain ⟨nm,tn,hf⟩:=hK.c_f2
 obtain ⟨dE,hE,hE2⟩:=hK.ute
 obtain ⟨dW,hW,hW2⟩:=hK.ufw
 obtain ⟨dR,hR_,hR2_⟩:=hK.ufr
 refine Sy.enterT (args:=[u,.agg cs.toArray,ptr g7,ptr g4]) hw hf J kL<|sC<|sM K.te cs.toArray (λg5=>?_) kR (λw=>Aq J J hK.ite hl w)
 refine Sy.permS (List.Perm.of_eq eqCW)<|Sy.nil<|Sy.then_<|Sy.region<|sS (.func (.func K.fe) #[] #[]) (AK (R:=R++[(g5,K.te,cs.toArray)]) (CM (inA h7)) Ba J hW (hd:=hW2))<|sS (ptr gc) (AK (R:=R++[(g5,K.te,cs.toArray)]) (CM (inA h4)) Ba J FN)<|Sy.callT (he:=by intro w; exact C7 J J kZ (hK.e_fe _ w)) (λw hw=>hp w0.inn gc gw g5 0 bad s (R++[(g5,K.te,cs.toArray)]) b cs x (hm (EV (λ_ h=>inA h)) hx) hl (VV Eh) hb hlen w hw) (λv M hM=>?_)
 obtain ⟨s1,bad1,b1,h1,h2,rfl⟩:=hM
 refine Sy.nil ?_
 exact Sy.retT0 J (CWS gc gw bad1 s1 R) (λ_ h=>GU h) (λ_=>⟨s1,bad1,b1,h1,h2,rfl⟩)
end
section
variable {α:Type} {rep:Rdr→List Value→α→Prop} {ok:α→Bool} {enc:α→Byt} {wt:α→Nat}
theorem UH {K:LK} (hK:K.Ok) (hm:BN rep) (hp:Fw K.fe K.k rep ok enc wt) (w0:Base) (gc gw g4 g7:Nat) (bad:Bool) (s:Slc) (R:AA) (b:Byt) (v:Value) (l:List α) (h4:(g4,85,#[ptr gc])∈R) (h7:(g7,K.fw,#[.func (.func K.fe) #[] #[]])∈R) (hv:LstR (rdC w0 R) K.k rep v l) (hb:BS s b) (hlen:b.length+(9+(l.map wt).sum)≤70368744170000) (w:World) (hw:St w0 w (CWS gc gw bad s R)) :
  AL K.fP #[ptr gw,v,.func (.func K.f2) #[] #[ptr g7,ptr g4]] w (AQ w0 (WrC gc gw R (l.all ok) (Ap l.length++l.flatMap enc) (9+(l.map wt).sum) bad b)):=by
 obtain ⟨A,n,cp,rfl,h2,h3,h4',h5⟩:=hv
 have hmx:n<9223372036854775808:=by simp only [maxLen] at h4'; omega
 obtain ⟨nm,tn,hf⟩:=hK.c_fP
 obtain ⟨dE,hE,hE2⟩:=hK.ute
 obtain ⟨dW,hW,hW2⟩:=hK.ufw
 obtain ⟨dR,hR_,hR2_⟩:=hK.ufr
 refine Sy.enterT (args:=[ptr gw,.slice A n cp,.func (.func K.f2) #[] #[ptr g7,ptr g4]]) hw hf J kL<|sC<|sp J<|sp J<|sS (.int .i64 (n:Int)) (Quiet.pure (λw=>Jl J J hK.uts w))<|sS (uZ (n:Int)) (Quiet.pure (λw=>DG w _ _ _ n om J J))<|Sy.callT (λw hw=>JW w0.inn gw s ((gc,134,#[ptr gw,.pointer none,.bool bad])::R) b n om hb om w (hw.perm permCW)) (λu M hM=>?_)
 obtain ⟨s1,hs1,rfl⟩:=hM
 have hn9:=Dc n
 refine Sy.permS permCW.symm<|Sy.nil<|sB<|sp J<|sS (.int .i64 (n:Int)) (Quiet.pure (λw=>Jl J J hK.uts w))<|sP (.int .i64 0)<|sG<|Sy.block ?_
 have hw0:Wrote true (Ap n) 9 bad b bad (b++Ap n):=Wrote.raw _ _ _ hn9
 have hsum:∀ i,((l.take i).map wt).sum≤(l.map wt).sum:=λi=>by
  have e:=congrArg (λz=>(z.map wt).sum) (List.take_append_drop i l)
  simp only [List.map_append,List.sum_append] at e
  omega
 refine Sy.loopT (Y:=Slc×Bool×Byt) n (λi y=>[(0,ptr gw),(2,.func (.func K.f2) #[] #[ptr g7,ptr g4]),(13,.slice A n cp),(14,.int .i64 (n:Int)),(15,.int .i64 (i:Int))]) (λi y=>CWS gc gw y.2.1 y.1 R) (λi y=>Wrote ((l.take i).all ok) (Ap n++(l.take i).flatMap enc) (9+((l.take i).map wt).sum) bad b y.2.1 y.2.2∧BS y.1 y.2.2) (s1,bad,b++Ap n) ⟨by
  have e:Wrote ((l.take 0).all ok) (Ap n++(l.take 0).flatMap enc) (9+((l.take 0).map wt).sum) bad b bad (b++Ap n):=by
   rw [List.take_zero]
   simpa using hw0
  exact e,hs1⟩ ac5 (λ_ h=>h) (λi y hi hy=>?_)
 obtain ⟨sy,bady,by_⟩:=y
 obtain ⟨hy,hsy⟩:=hy
 dsimp only at hy hsy ⊢
 refine sC ?_
 obtain ⟨b2,hb2⟩:=xE (decide (i<n))
 refine sS (.bool b2) (qls J J J hb2)<|sG<|Sy.seq ?_
 cases b2
 case' false =>
  have l2:=dN hb2
  obtain rfl:i=n:=om
  rw [List.take_of_length_le om] at hy
  refine sU<|Sy.exit<|Sy.then_exit<|Sy.then_exit<|Sy.in_exit ?_
  rw [h2]
  exact Sy.retT0 J (CWS gc gw bady sy R) (λ_ h=>h) (λ_=>⟨sy,bady,by_,hy,hsy,rfl⟩)
 have l2:=dY hb2
 obtain ⟨x,hx⟩:∃ x,l[i]? = some x:=⟨_,List.getElem?_eq_getElem om⟩
 obtain ⟨g,o,rfl,hq⟩:=h5 (by intro e; rw [e] at hx; cases hx)
 obtain ⟨cs,c1,c2,c3,c4⟩:=hq i x hx
 have htk:l.take (i+1)=l.take i++[x]:=by rw [List.take_add_one,hx]; rfl
 have hsi:=hsum (i+1)
 rw [htk] at hsi
 simp only [List.map_append,List.sum_append,List.map_cons,List.map_nil,List.sum_cons,List.sum_nil] at hsi
 refine sT<|Sy.skip<|Sy.then_<|Sy.seq<|Sy.block<|sC<|sS (.pointer (some ⟨g,o+i*K.k,none⟩)) (Quiet.pure (BJ K.ts _ _ _ (some ⟨g,o,none⟩) g o n cp i K.k .i64 J J J J hK.uts hK.so l2))<|sS (.agg cs.toArray) (BQ (R:=R) c4 Ba c1 J hE (hd:=hE2) (hi:=hK.ite))<|sM K.te K.z.toArray (hg:=kR) (hm:=λw=>hK.alloc J w) (λg9=>?_)
 refine Sy.permS (List.Perm.of_eq eqCW)<|Sy.permS (List.perm_append_comm (l₁:=CWS gc gw bady sy R) (l₂:=[(g9,K.te,K.z.toArray)]) |> λh=>(List.Perm.of_eq eqCW.symm).trans h)<|sw 0 J cs.toArray (Writes.row K.te cs K.k _ _ J kR kR hK.ite c1 (by rw [List.size_toArray]; exact hK.zl) c2)<|Sy.permS ((List.perm_append_comm (l₁:=[(g9,K.te,cs.toArray)]) (l₂:=CWS gc gw bady sy R)).trans (List.Perm.of_eq eqCW))<|Sy.nil<|Sy.then_<|Sy.region<|sp J<|sp J<|sS (.agg cs.toArray) (BQ (R:=R++[(g9,K.te,cs.toArray)]) (J7 Eh) Ba c1 J hE (hd:=hE2) (hi:=hK.ite))<|Sy.callT (he:=by intro w; exact C7 J J kZ (hK.e_f2 _ w)) (λw hw=>Vw (rep:=rep) (ok:=ok) (enc:=enc) (wt:=wt) hK hm hp w0.inn gc gw g4 g7 bady sy (R++[(g9,K.te,cs.toArray)]) by_ (ptr gw) cs x (inA h4) (inA h7) (hm (EV (λ_ h=>inA h)) c3) c1 hsy (by have hyl:=hy.len; omega) w hw) (λv M hM=>?_)
 obtain ⟨s3,bad3,b3,q1,q2,rfl⟩:=hM
 refine Sy.nil<|Sy.in_<|Sy.then_<|Sy.region<|sS (iZ (i+1)) (qad J J J)<|sp J<|Sy.nil ?_
 have hW:=hy.then_ q1
 have hW':Wrote ((l.take (i+1)).all ok) (Ap n++(l.take (i+1)).flatMap enc) (9+((l.take (i+1)).map wt).sum) bad b bad3 b3:=by
  rw [htk]
  simp only [List.all_append,List.flatMap_append,List.map_append,List.sum_append,List.all_cons,List.all_nil,List.flatMap_cons,List.flatMap_nil,List.map_cons,List.map_nil,List.sum_cons,List.sum_nil,Bool.and_true,List.append_nil,Nat.add_zero, ← List.append_assoc, ← Nat.add_assoc]
  simpa only [List.append_assoc,Nat.add_assoc] using hW
 exact Sy.againT (s3,bad3,b3) l2 ⟨hW',q2⟩ ac5 (λw h=>GU h)
theorem EZ {K:LK} (hK:K.Ok) (hm:BN rep) (hp:Fw K.fe K.k rep ok enc wt) (w0:Base) (gc gw gx f most:Nat) (hmo:most<1000000) (bad:Bool) (s:Slc) (R:AA) (b:Byt) (v:Value) (l:List α) (hv:LstR (rdC w0 R) K.k rep v l) (hc:rdC w0 R gx f v) (hb:BS s b) (hlen:b.length+(9+(l.map wt).sum)≤70368744170000) (w:World) (hw:St w0 w (CWS gc gw bad s R)) :
  AL K.f0 #[ptr gc,pT gx f,.int .i64 (most:Int),.func (.func K.fe) #[] #[]] w (AQ w0 (WrC gc gw R (decide (l.length≤most) && l.all ok) (Ap l.length++l.flatMap enc) (9+(l.map wt).sum) bad b)):=by
 have hv0:=hv
 obtain ⟨A,n,cp,rfl,h2,h3,h4',h5⟩:=hv
 obtain ⟨nm,tn,hf⟩:=hK.c_f0
 obtain ⟨dE,hE,hE2⟩:=hK.ute
 obtain ⟨dW,hW,hW2⟩:=hK.ufw
 obtain ⟨dR,hR_,hR2_⟩:=hK.ufr
 refine Sy.enterT (args:=[ptr gc,pT gx f,.int .i64 (most:Int),.func (.func K.fe) #[] #[]]) hw hf J kL<|sC<|sM 85 #[ptr gc] (λg4=>?_)
 refine Sy.permS (List.Perm.of_eq eqCW)<|sM K.fw #[.func (.func K.fe) #[] #[]] (hg:=kR) (hm:=λw=>H8 (v:=.func (.func K.fe) #[] #[]) J J J hK.ifw w) (λg7=>?_)
 refine Sy.permS (List.Perm.of_eq eqCW) ?_
 obtain ⟨R1,hR1⟩:=xE (R++[(g4,85,#[ptr gc])]++[(g7,K.fw,#[.func (.func K.fe) #[] #[]])])
 rw [← hR1]
 have m4:(g4,85,#[ptr gc])∈R1:=by rw [hR1]; exact inA Eh
 have m7:(g7,K.fw,#[.func (.func K.fe) #[] #[]])∈R1:=by rw [hR1]; exact Eh
 have mR:∀ x∈R,x∈R1:=λx hx=>by rw [hR1]; exact inA (inA hx)
 have hv1:LstR (rdC w0 R1) K.k rep (.slice A n cp) l:=LstR.le (rep:=rep) hm (EV mR) hv0
 have hc1:rdC w0 R1 gx f (.slice A n cp):=EV mR _ _ _ hc
 have back:∀ {w:World} {bad':Bool} {s':Slc},St w0 w (CWS gc gw bad' s' R1)→St w0 w (CWS gc gw bad' s' R):=λh=>by
  rw [hR1,List.append_assoc] at h
  exact GU h
 refine sG<|Sy.seq<|sC<|sS (ptr gc) (AK (R:=R1) (CM m4) Ba J FN)<|sS (.bool false) (qg (λw hw=>DD w0.inn gc _ _ (List.mem_cons_self ..) w hw))<|sG<|sU<|Sy.skip ?_
 obtain ⟨b1,hb1⟩:=xE (decide (n≤most))
 refine sR (λj=>j == 7) ?_
 refine sD 0 J (ptr gc) (AK (R:=R1) (CM m4) Ba J FN)<|sa 1 J J<|sa 2 J J<|se 3 [4,6,7] rfl (.slice A n cp) (AK (R:=R1) hc1 Ba J hK.uts)<|sv 4 J (.int .i64 (n:Int)) (λw=>Jl J J hK.uts w)<|sa 5 J J<|sv 6 J (.bool b1) (AE .leq _ _ _ .i64 _ _ _ J J J (Eb _ _ _ _ _ (by rw [hb1]; exact decide_eq_decide.2 om)))<|Sy.soleD 7 J (λQ2 hq2=>?_)
 refine Sy.callT (λw hw=>B2 w0.inn gc gw bad b1 s R1 w hw) (λu M hM=>?_)
 subst hM
 refine hq2 _ _<|sE ?_
 obtain ⟨bad1,hbad1⟩:=xE ((bad || !b1))
 rw [← hbad1]
 refine sB<|sS (ptr gc) (AK (R:=R1) (CM m4) Ba J FN)<|sp J<|sP (pT gc 2)<|sS (.bool bad1) (qc 0 2 J J uy4)<|sP (.bool (!bad1))<|sG ?_
 cases bad1
 ·have hb1t:bad=false∧b1=true:=by cases bad <;> cases b1 <;> first | exact ⟨rfl,rfl⟩ | cases hbad1
  obtain ⟨rfl,rfl⟩:=hb1t
  have e1:decide (l.length≤most)=true:=by rw [h2, ← hb1]
  rw [e1,Bool.true_and]
  refine sT<|Sy.regionD (λj=>j == 8) kR<|se 0 [1,2,3,8] rfl (ptr gc) (AK (R:=R1) (CM m4) Ba J FN)<|sa 1 J J<|sb 2 J (pT gc 0)<|sD 3 J (ptr gw) (qc 0 0 J J Fa)<|sa 4 J J<|sa 5 J J<|sD 6 J (.slice A n cp) (AK (R:=R1) hc1 Ba J hK.uts)<|sb 7 J (.func (.func K.f2) #[] #[ptr g7,ptr g4])<|Sy.soleD 8 J (λQ2 hq2=>?_)
  refine Sy.callT (he:=by intro w; exact C7 J J kZ (hK.e_fP _ w)) (λw hw=>UH (rep:=rep) hK hm hp w0.inn gc gw g4 g7 false s R1 b (.slice A n cp) l m4 m7 hv1 hb hlen w hw) (λu M hM=>?_)
  obtain ⟨s1,bad2,b2,q1,q2,rfl⟩:=hM
  refine hq2 _ _<|sE ?_
  exact Sy.retT0 J (CWS gc gw bad2 s1 R) (λ_ h=>back h) (λ_=>⟨s1,bad2,b2,q1,q2,rfl⟩)
 ·refine sU<|Sy.skip ?_
  have e1:true=(bad || !(decide (l.length≤most) && l.all ok)):=by
   rw [h2, ← hb1]
   cases bad
   ·cases b1
    ·rfl
    ·cases hbad1
   ·rfl
  exact Sy.retT0 J (CWS gc gw true s R) (λ_ h=>back h) (λ_=>⟨s,true,b,⟨e1,λh=>(by cases h),by omega⟩,hb,rfl⟩)
end
section
variable {α:Type} {rep:Rdr→List Value→α→Prop} {p:Ps α}
theorem Vx {K:LK} (hK:K.Ok) (hm:BN rep) (hp:B7 K.fe K.k K.z rep p) (w0:Base) (gc gr g4 g7:Nat) (sl:Value) (s:RS) (R S:AA) (hS:∀ b∈S,b∈R) (h4:(g4,85,#[ptr gc])∈R) (h7:(g7,K.fw,#[.func (.func K.fe) #[] #[]])∈R) (he:s.e≤200) (hl:s.rest.length≤70368744177664) (hv:BytR (rdC w0 S) sl s.rest) (u:Value) (w:World) (hw:St w0 w (CRN gc gr sl s.e R)) :
  AL K.f1 #[u,ptr g7,ptr g4] w (AQ w0 (RdV K.k rep p w0 gc gr s R S)):=by
 obtain ⟨nm,tn,hf⟩:=hK.c_f1
 obtain ⟨dE,hE,hE2⟩:=hK.ute
 obtain ⟨dW,hW,hW2⟩:=hK.ufw
 obtain ⟨dR,hR_,hR2_⟩:=hK.ufr
 refine Sy.enterT (args:=[u,ptr g7,ptr g4]) hw hf J kL<|sC<|sM K.te K.z.toArray (hg:=kR) (hm:=λw=>hK.alloc J w) (λga=>?_)
 refine sA<|sM K.te K.z.toArray (hg:=kR) (hm:=λw=>hK.alloc J w) (λgb=>?_)
 refine Sy.permS (M:=CRS gc gr gb K.te ([]++(K.z++[])) sl s.e ((ga,K.te,K.z.toArray)::R)) (by rw [show ([]:List Value)++(K.z++[])=K.z from List.append_nil _]; exact UJ)<|sA<|sS (.func (.func K.fe) #[] #[]) (AK (R:=(ga,K.te,K.z.toArray)::R) (CM (List.mem_cons_of_mem _ h7)) I2 J hW (hd:=hW2))<|sS (ptr gc) (AK (R:=(ga,K.te,K.z.toArray)::R) (CM (List.mem_cons_of_mem _ h4)) I2 J FN)<|Sy.callT (he:=by intro w; exact C7 J J kZ (hK.e_fe _ w)) (λw hw=>hp w0.inn gc gr gb 0 K.te [] [] sl s ((ga,K.te,K.z.toArray)::R) S (λb h=>List.mem_cons_of_mem _ (hS b h)) J he hl hv w hw) (λv M hM=>?_)
 obtain ⟨x,s',sl',cs,N,q1,q2,q3,q4,q5,q6,q7,rfl⟩:=hM
 rw [List.append_nil]
 refine sA<|sS (.agg cs.toArray) (Quiet.mid 1 gb 0 K.k K.te K.te cs cs _ _ J kR J hE hE2 hK.ite (by rw [List.drop_zero,List.take_of_length_le om]) om)<|sw 3 J cs.toArray (Writes.row K.te cs K.k _ _ J kR kR hK.ite q2 (by rw [List.size_toArray]; exact hK.zl) q3)<|sG<|Sy.ret ?_
 exact Sy.retT1 (CRN gc gr sl' s'.e (R++N)) J (.inl (Sy.Res.cell (ty':=K.te) ga 3 cs.toArray _ kZ J hE hE2 (by rw [List.size_toArray,q2]; exact hK.ite) rfl)) (λw h=>h.less (((List.Sublist.refl _).cons _ |>.cons_cons _).cons _ |>.cons_cons _)) ⟨x,s',sl',cs,N,q1,q2,q3,q4,rfl,q5,q6,q7,rfl⟩
theorem Qu {K:LK} (hK:K.Ok) (w:World) (gr most g4 g7:Nat):AL K.fI #[ptr gr,.int .i64 (most:Int),.func (.func K.f1) #[] #[ptr g7,ptr g4]] w (BD w (λv M=>∃ a b c,v=.func (.func K.fJ) #[] #[ptr a,ptr b,ptr c]∧M=[(a,132,#[ptr gr]),(b,3,#[.int .i64 (most:Int)]),(c,K.fr,#[.func (.func K.f1) #[] #[ptr g7,ptr g4]])])):=by
 obtain ⟨nm,tn,hf⟩:=hK.c_fI
 obtain ⟨dE,hE,hE2⟩:=hK.ute
 obtain ⟨dW,hW,hW2⟩:=hK.ufw
 obtain ⟨dR,hR_,hR2_⟩:=hK.ufr
 refine Sy.enter (args:=[ptr gr,.int .i64 (most:Int),.func (.func K.f1) #[] #[ptr g7,ptr g4]]) hf J kL<|sC<|sM 132 #[ptr gr] (λa=>?_)
 refine sM 3 #[.int .i64 (most:Int)] (λb=>?_)
 refine sM K.fr #[.func (.func K.f1) #[] #[ptr g7,ptr g4]] (hg:=kR) (hm:=λw=>H8 (v:=.func (.func K.f1) #[] #[ptr g7,ptr g4]) J J J hK.ifr w) (λc=>?_)
 refine sP .nilFunc<|sA<|sP (.func (.func K.fJ) #[] #[ptr a,ptr b,ptr c])<|sp J<|sG<|Sy.ret ?_
 exact Sy.retGM _ J (.inl (show _=_ by kernel_rfl)) (λ_ h=>h) ⟨a,b,c,rfl,rfl⟩
def V9 (K:LK) (p:Ps α) (rep:Rdr→List Value→α→Prop) (w0:Base) (S:AA) (m:Nat) (s1:RS) (v:Nat×List Value) (y:YL α):Prop:=∃ x,y.x=some x∧y.l.length=v.1∧RowsOk K.te K.k rep y.r y.N y.l∧rep (rdB y.N) v.2 x∧v.2.length=K.k∧(∀ u∈v.2,u.oneCell'=true)∧v.1<1000000
def Ux (K:LK) (rep:Rdr→List Value→α→Prop) (y y':YL α):Prop:=∃ x r',y.x=some x∧RowsOk K.te K.k rep r' y.N (y.l++[x])∧y'={ y with l:=y.l++[x],r:=r',x:=none }
theorem Sn {K:LK} (hK:K.Ok) (hm:BN rep) (hp:B7 K.fe K.k K.z rep p) (w0:Base) (fz:World) (gc gr gl g4 g7 a b c most:Nat) (hmost:most<1000000) (R S:AA) (s0:RS) (sl0:Value) (hS:∀ x∈S,x∈R) (h4:(g4,85,#[ptr gc])∈R) (h7:(g7,K.fw,#[.func (.func K.fe) #[] #[]])∈R) (ha:(a,132,#[ptr gr])∈R) (hb:(b,3,#[.int .i64 (most:Int)])∈R) (hc:(c,K.fr,#[.func (.func K.f1) #[] #[ptr g7,ptr g4]])∈R) (he:s0.e≤200) (hl:s0.rest.length≤70368744177664) (hv:BytR (rdC w0 S) sl0 s0.rest) (lp:Nat) (w:World) (hw:St (ib w0.world fz) w (LBL gc gr gl K.ts nilS s0.e sl0 R []))
  (hY:∀ (v:Nat×List Value) (y:YL α) (W:World),(V9 K p rep w0 S 0 s0 v y)→St (ib w0.world fz) W (LBL gc gr gl K.ts y.r y.s.e y.sl R y.N)→YieldAt Fence.wide 7 Tryz.prog lp #[.int .i64 (v.1:Int),.agg v.2.toArray] W (KJ w0.world fz (Ux K rep y) (λy=>LBL gc gr gl K.ts y.r y.s.e y.sl R y.N))) :
  CallsIn Fence.wide 8 Tryz.prog K.fJ #[.func (.yield lp) #[] #[],ptr a,ptr b,ptr c] w (Rl w0.world fz (λy:YL α=>∃ m s1,After (Fj most) s0 m s1∧s1.rest.length≤s0.rest.length∧y.l.length≤most∧InvL K.te K.k rep p w0 S m s1 y.l.length y∧(y.s.e=0→y.l.length=m)) (λy=>LBL gc gr gl K.ts y.r y.s.e y.sl R y.N)):=by
 obtain ⟨nm,tn,hf⟩:=hK.c_fJ
 obtain ⟨dE,hE,hE2⟩:=hK.ute
 obtain ⟨dW,hW,hW2⟩:=hK.ufw
 obtain ⟨dR,hR_,hR2_⟩:=hK.ufr
 refine Sy.enterI (args:=[.func (.yield lp) #[] #[],ptr a,ptr b,ptr c]) hw hf J kL<|sC<|sS (ptr gr) (AK (R:=R) (CM ha) DR J CV)<|sS (.int .i64 (most:Int)) (AK (R:=R) (CM hb) DR J uy3)<|Sy.callT (λw hw=>JP (ib w0.world fz) gr sl0 s0 ((gc,134,#[.pointer none,ptr gr,.bool false])::(gl,K.ts,#[.slice none 0 0])::(R++[])) S (λx h=>List.mem_cons_of_mem _ (List.mem_cons_of_mem _ (List.mem_append_left _ (hS x h)))) most hmost he hv w (hw.perm swap12)) (λu M hM=>?_)
 obtain ⟨m,s1,sl1,hA1,⟨rfl,hm1⟩,hs1e,hs1r,hs1b,rfl⟩:=hM
 refine Sy.permS (M:=LBL gc gr gl K.ts nilS s1.e sl1 R []) swap12.symm<|sp J<|sA<|sP (.int .i64 0)<|sG<|Sy.block<|Sy.loopT (Y:=YL α) m (λi y=>[(0,.func (.yield lp) #[] #[]),(1,ptr a),(2,ptr b),(3,ptr c),(5,.int .i64 (m:Int)),(6,.int .i64 (i:Int))]) (λi y=>LBL gc gr gl K.ts y.r y.s.e y.sl R y.N) (λi y=>InvL K.te K.k rep p w0 S m s1 i y) ⟨[],nilS,s1,sl1,[],none⟩ ⟨rfl,RowsOk.nil,λh=>⟨h,rfl⟩,λh=>.inl h,hs1e,Nat.le_refl _,hs1b⟩ ac6 (λ_ h=>h) (λi y hi hy=>?_)
 obtain ⟨l,r,s,sl,N,xo⟩:=y
 have hylen:l.length=i:=hy.len
 refine Sy.seq<|sC ?_
 obtain ⟨b1,hb1⟩:=xE (decide (i<m))
 refine sp J<|sp J<|sS (.bool b1) (qls J J J hb1)<|sp J ?_
 cases b1
 case' false =>
  have l1:=dN hb1
  obtain rfl:i=m:=om
  refine sN<|sN<|sN<|sP (.bool false)<|sG<|sU<|Sy.exit<|Sy.then_exit<|Sy.then_exit<|Sy.in_exit ?_
  exact Sy.retI J (λv w h=>⟨⟨_,rfl⟩,⟨l,r,s,sl,N,xo⟩,⟨i,s1,hA1,hs1r,by show l.length≤most; omega,by rw [show (⟨l,r,s,sl,N,xo⟩:YL α).l.length=i from hylen]; exact hy,λ_=>hylen⟩,h⟩) (.inr J)
 have l1:=dY hb1
 obtain ⟨b2,hb2⟩:=xE (decide (s.e=0))
 have hse:s.e≤200:=hy.e
 refine sS (ptr gr) (AK (R:=R) (CM ha) DR J CV)<|sS (.int .i64 (s.e:Int)) (qg (λw hw=>D0 (ib w0.world fz) gr sl s.e [] (List.mem_cons_of_mem _ (List.mem_cons_self ..)) w hw))<|sS (.bool b2) (qeq J J J hb2)<|sP (.bool b2)<|sG ?_
 cases b2
 case' false =>
  have l2:=dN hb2
  refine sU<|Sy.exit<|Sy.then_exit<|Sy.then_exit<|Sy.in_exit ?_
  exact Sy.retI J (λv w h=>⟨⟨_,rfl⟩,⟨l,r,s,sl,N,xo⟩,⟨m,s1,hA1,hs1r,by show l.length≤most; omega,by rw [show (⟨l,r,s,sl,N,xo⟩:YL α).l.length=i from hylen]; exact hy,λh=>(l2 h).elim⟩,h⟩) (.inr J)
 have l2:=dY hb2
 obtain ⟨hs10,hrep⟩:=hy.yes l2
 refine sT<|Sy.skip<|Sy.then_<|Sy.seq<|Sy.block<|sC<|sS (.func (.func K.f1) #[] #[ptr g7,ptr g4]) (AK (R:=R) (CM hc) DR J hR_ (hd:=hR2_))<|sS (ptr gr) (AK (R:=R) (CM ha) DR J CV)<|Sy.callT (he:=by intro w; exact C7 J J kZ (hK.e_f1 _ w)) (λw hw=>Vx (rep:=rep) (p:=p) hK hm hp (ib w0.world fz) gc gr g4 g7 sl s ((gl,K.ts,#[r.v])::(r.bl++(R++N))) S (λx h=>List.mem_cons_of_mem _ (List.mem_append_right _ (List.mem_append_left _ (hS x h)))) (List.mem_cons_of_mem _ (List.mem_append_right _ (List.mem_append_left _ h4))) (List.mem_cons_of_mem _ (List.mem_append_right _ (List.mem_append_left _ h7))) hse (Nat.le_trans (Nat.le_trans hy.rest hs1r) hl) hy.byt (ptr gr) w hw) (λu M hM=>?_)
 obtain ⟨x,s',sl',cs,N1,q1,q2,q3,q4,rfl,q5,q6,q7,rfl⟩:=hM
 obtain ⟨st1,st2⟩:=Kb hrep l2 q1
 refine sM K.te K.z.toArray (hg:=kR) (hm:=λw=>hK.alloc J w) (λgb=>?_)
 refine Sy.permS (M:=(gb,K.te,K.z.toArray)::LBL gc gr gl K.ts r s'.e sl' R (N++N1)) ((List.perm_append_comm (l₂:=[(gb,K.te,K.z.toArray)])).trans (List.Perm.cons _ (List.Perm.of_eq (by simp only [List.cons_append,List.append_assoc,List.nil_append]; rfl))))<|sw 0 J cs.toArray (Writes.row K.te cs K.k _ _ J kR kR hK.ite q2 (by rw [List.size_toArray]; exact hK.zl) q3)<|Sy.nil<|Sy.then_ ?_
 have hR2:RowsOk K.te K.k rep r (N++N1) l:=RowsOk.more (rep:=rep) hm hy.rows (λb h=>List.mem_append_left _ h)
 have hx2:rep (rdB (N++N1)) cs x:=hm (AV λb h=>List.mem_append_right _ h) q4
 have drop1:∀ {w:World},St (ib w0.world fz) w ((gb,K.te,cs.toArray)::LBL gc gr gl K.ts r s'.e sl' R (N++N1))→St (ib w0.world fz) w (LBL gc gr gl K.ts r s'.e sl' R (N++N1)):=λh=>h.less (List.sublist_cons_self _ _)
 obtain ⟨b3,hb3⟩:=xE (decide (s'.e≠0))
 have inl:∀ b∈R,b∈(gb,K.te,cs.toArray)::LBL gc gr gl K.ts r s'.e sl' R (N++N1):=λb h=>List.mem_cons_of_mem _ (DR b h)
 refine Sy.seq ?_
 cases b3
 case' true =>
  have l3:=dY hb3
  refine Sy.region<|sS (ptr gr) (AK (R:=R) (CM ha) inl J CV)<|sS (.int .i64 (s'.e:Int)) (qg (λw hw=>D0 (ib w0.world fz) gr sl' s'.e [] (List.mem_cons_of_mem _ (List.mem_cons_of_mem _ (List.mem_cons_self ..))) w hw))<|sS (.bool true) (qne J J J hb3)<|sp J<|sN<|sN<|sN<|sN<|sN<|sP (.bool true)<|sG<|sT<|Sy.ret<|Sy.in_ret<|Sy.then_ret<|Sy.then_ret<|Sy.in_ret ?_
  exact Sy.retI J (λv w h=>⟨⟨_,rfl⟩,⟨l,r,s',sl',N++N1,none⟩,⟨m,s1,hA1,hs1r,by show l.length≤most; omega,⟨rfl,hR2,λh=>(l3 h).elim,λ_=>.inr (st2 l3 m l1),q5,Nat.le_trans q6 hy.rest,q7⟩,λh=>(l3 h).elim⟩,drop1 h⟩) (.inl J)
 have l3:s'.e=0:=Decidable.of_not_not (of_decide_eq_false hb3.symm)
 refine Sy.regionI 7 (by rintro ⟨_,_,⟨_,hv⟩,_⟩; cases hv) kR<|sS (ptr gr) (AK (R:=R) (CM ha) inl rfl CV)<|sS (.int .i64 (s'.e:Int)) (qg (λw hw=>D0 (ib w0.world fz) gr sl' s'.e [] (List.mem_cons_of_mem _ (List.mem_cons_of_mem _ (List.mem_cons_self ..))) w hw))<|sS (.bool false) (qne rfl rfl rfl hb3)<|sp rfl<|sp rfl<|sp rfl<|sS (.agg cs.toArray) (Quiet.mid 0 gb 0 K.k K.te K.te cs cs _ _ rfl kR rfl hE hE2 hK.ite (by rw [List.drop_zero,List.take_of_length_le om]) om)<|Sy.nil<|Sy.yieldI (HR:=Ux K rep ⟨l,r,s',sl',N++N1,some x⟩) (LR:=λy=>LBL gc gr gl K.ts y.r y.s.e y.sl R y.N) rfl (by rintro ⟨_,_,⟨_,hv⟩,_⟩; cases hv) kR kR lp #[.int .i64 (i:Int),.agg cs.toArray] kF (λw hw=>hY (i,cs) ⟨l,r,s',sl',N++N1,some x⟩ w ⟨x,rfl,hylen,hR2,hx2,q2,q3,by show i<1000000; omega⟩ (drop1 hw)) (λy' hy'=>?_)
 obtain ⟨x',r',hx',hr',rfl⟩:=hy'
 obtain rfl:x=x':=by injection hx'
 refine sP (.bool false)<|sP (.bool false)<|sG<|sU<|Sy.skip<|Sy.in_<|Sy.then_<|Sy.region<|sp J<|sS (iZ (i+1)) (qad J J J)<|sp J<|Sy.nil ?_
 exact Sy.againT ⟨l++[x],r',s',sl',N++N1,none⟩ l1 ⟨by simp [hylen],hr',λ_=>⟨hs10,st1 l3⟩,λh=>(h l3).elim,q5,Nat.le_trans q6 hy.rest,q7⟩ ac6 (λw h=>h)
theorem Qj {K:LK} (hK:K.Ok) (hm:BN rep) (hp:B7 K.fe K.k K.z rep p) (w0:Base) (gc gr g4 g7 most:Nat) (hmost:most<1000000) (sl0:Value) (s0:RS) (R S:AA) (hS:∀ x∈S,x∈R) (h4:(g4,85,#[ptr gc])∈R) (h7:(g7,K.fw,#[.func (.func K.fe) #[] #[]])∈R) (he:s0.e≤200) (hl:s0.rest.length≤70368744177664) (hv:BytR (rdC w0 S) sl0 s0.rest) (w:World) (hw:St w0 w (CRN gc gr sl0 s0.e R)) :
  AL K.fL #[ptr gr,.int .i64 (most:Int),.func (.func K.f1) #[] #[ptr g7,ptr g4]] w (AQ w0 (RdL K.k rep (Ch most p) w0 gc gr s0 R S)):=by
 obtain ⟨nm,tn,hf⟩:=hK.c_fL
 obtain ⟨dE,hE,hE2⟩:=hK.ute
 obtain ⟨dW,hW,hW2⟩:=hK.ufw
 obtain ⟨dR,hR_,hR2_⟩:=hK.ufr
 refine Sy.enterTM (args:=[ptr gr,.int .i64 (most:Int),.func (.func K.f1) #[] #[ptr g7,ptr g4]]) hw hf J kL<|sC<|sP (.slice none 0 0)<|sA<|sM K.ts #[.slice none 0 0] (hg:=kR) (hm:=λw=>hK.allocS J w) (λgl=>?_)
 refine sG<|Sy.seq<|sC<|sp J<|sp J<|sp J<|Sy.callN kR K.fI #[ptr gr,.int .i64 (most:Int),.func (.func K.f1) #[] #[ptr g7,ptr g4]] (by intro w; exact C7 J J kZ (hK.e_fI _ w)) _ (λw _=>Qu hK w gr most g4 g7) (λv M hM=>?_)
 obtain ⟨a,b,c,rfl,rfl⟩:=hM
 refine Sy.nil<|Sy.then_<|Sy.block ?_
 obtain ⟨R1,hR1⟩:=xE (R++[(a,132,#[ptr gr]),(b,3,#[.int .i64 (most:Int)]),(c,K.fr,#[.func (.func K.f1) #[] #[ptr g7,ptr g4]])])
 refine Sy.permC (M:=LBL gc gr gl K.ts nilS s0.e sl0 R1 []) (by rw [hR1]; exact P7) ?_
 have mR:∀ x∈R,x∈R1:=λx hx=>by rw [hR1]; exact List.mem_append_left _ hx
 have ma:(a,132,#[ptr gr])∈R1:=by rw [hR1]; simp
 have mb:(b,3,#[.int .i64 (most:Int)])∈R1:=by rw [hR1]; simp
 have mc:(c,K.fr,#[.func (.func K.f1) #[] #[ptr g7,ptr g4]])∈R1:=by rw [hR1]; simp
 obtain ⟨nmJ,tnJ,hfJ⟩:=hK.c_fJ
 obtain ⟨zv,hz0,hz1⟩:=hK.zero
 refine Sy.rangeT (α:=Nat×List Value) (Y:=YL α) (Z:=Nat) K.fJ #[ptr a,ptr b,ptr c] kR kR hK.e_fJ (λv=>#[.int .i64 (v.1:Int),.agg v.2.toArray]) (λ_=>rfl) (show ∀ p∈#[14,15].toList,p<24 by decide)
  (V9 K p rep w0 S 0 s0) (λ_ y=>LBL gc gr gl K.ts y.r y.s.e y.sl R1 y.N) (λ_ _ z=>[(7,ptr gl),(9,ptr z)]) (λv y z=>(z,K.te,v.2.toArray)::LBL gc gr gl K.ts y.r y.s.e y.sl R1 y.N) (λ_ y=>Ux K rep y) (λy=>LBL gc gr gl K.ts y.r y.s.e y.sl R1 y.N)
  (λy:YL α=>∃ m s1,After (Fj most) s0 m s1∧s1.rest.length≤s0.rest.length∧y.l.length≤most∧InvL K.te K.k rep p w0 S m s1 y.l.length y∧(y.s.e=0→y.l.length=m)) (λy=>LBL gc gr gl K.ts y.r y.s.e y.sl R1 y.N) ?_ ?_ ?_ ?_
 ·exact λlp fz w hw hY=>Sn (rep:=rep) (p:=p) hK hm hp w0 fz gc gr gl g4 g7 a b c most hmost R1 S s0 sl0 (λx h=>mR x (hS x h)) (mR _ h4) (mR _ h7) ma mb mc he hl hv lp w hw hY
 ·rintro lp fz ⟨i,cs⟩ ⟨l,r,s,sl,N,xo⟩ ⟨x,rfl,_,_,_,c1,c2,_⟩
  dsimp only at c1 c2 ⊢
  refine Sy.regionR (by rintro ⟨_,_,h⟩; exact h) kR ⟨_,rfl⟩<|sM K.te K.z.toArray (hg:=kR) (hm:=λw=>hK.alloc rfl w) (λz=>?_)
  refine Sy.permS (M:=(z,K.te,K.z.toArray)::LBL gc gr gl K.ts r s.e sl R1 N) (List.perm_append_comm (l₂:=[(z,K.te,K.z.toArray)]))<|sw 0 J cs.toArray (Writes.row K.te cs K.k _ _ J kR kR hK.ite c1 (by rw [List.size_toArray]; exact hK.zl) c2)<|Sy.nil ?_
  exact apZ z ac2 (λ_ h=>h)
 ·rintro lp fz ⟨i,cs⟩ ⟨l,r,s,sl,N,xo⟩ z ⟨x,rfl,hli,⟨xs,x1,x2,x3⟩,hx,c1,c2,hi⟩
  dsimp only at c1 c2 hli x1 x2 x3 hx hi ⊢
  refine Sy.block<|Sy.regionR (by rintro ⟨_,_,h⟩; exact h) kR ⟨_,rfl⟩<|sS r.v (qc 3 0 rfl rfl hK.uts)<|sS (.agg cs.toArray) (Quiet.mid 0 z 0 K.k K.te K.te cs cs _ _ rfl kR rfl hE hE2 hK.ite (by rw [List.drop_zero,List.take_of_length_le om]) om)<|Sy.make kR K.te cs.toArray (λg=>.slice (pA g) 1 1) (Makes.one K.ts K.te _ _ K.k _ cs rfl kR hK.uts hK.inf hz0 hK.size c1 hK.pos hK.top) (λg8=>?_)
  refine Sy.permS (M:=[(z,K.te,cs.toArray),(gc,134,#[.pointer none,ptr gr,.bool false]),(gr,253,#[sl,.int .i64 (s.e:Int)]),(gl,K.ts,#[r.v]),(g8,K.te,cs.toArray)]++(r.bl++(R1++N))) (Sy.flat_perm (ls:=[[(z,K.te,cs.toArray),(gc,134,#[.pointer none,ptr gr,.bool false]),(gr,253,#[sl,.int .i64 (s.e:Int)]),(gl,K.ts,#[r.v])],r.bl++(R1++N),[(g8,K.te,cs.toArray)]]) (ms:=[[(z,K.te,cs.toArray),(gc,134,#[.pointer none,ptr gr,.bool false]),(gr,253,#[sl,.int .i64 (s.e:Int)]),(gl,K.ts,#[r.v])],[(g8,K.te,cs.toArray)],r.bl++(R1++N)]) [0,2,1] kZ (by rfl) (by simp) (by simp))<|Sy.appendR kR K.ts K.te _ _ K.k K.by_ hK.uts hK.inf hz0 hK.size hK.byt (by rw [hz1,List.size_toArray]; exact hK.zl) hK.pos _ _ J x1 kR cs c1 c2 4 g8 K.te kR kR (Nat.le_trans (Nat.mul_le_mul (show _≤1000000 by omega) hK.btop) dZ) (by simp only [maxLen]; omega) (λr' hr'=>?_)
  refine sw 3 J #[r'.v] (Writes.one 0 K.ts r'.v _ _ J kR kR hK.its hr'.cells.1 hr'.cells.2 Nat.zero_lt_one kR)<|Sy.setT<|Sy.nil<|Sy.in_ ?_
  exact bpZ ⟨l++[x],r',s,sl,N,none⟩ ⟨x,r',rfl,RowsOk.add (rep:=rep) x2 x3 hr' hx,rfl⟩ (λw h=>Sy.St.parts (ls:=[[(z,K.te,cs.toArray)],[(gc,134,#[.pointer none,ptr gr,.bool false]),(gr,253,#[sl,.int .i64 (s.e:Int)]),(gl,K.ts,#[r'.v])],[(g8,K.te,cs.toArray)],r'.bl++(R1++N)]) (ms:=[[(gc,134,#[.pointer none,ptr gr,.bool false]),(gr,253,#[sl,.int .i64 (s.e:Int)]),(gl,K.ts,#[r'.v])],r'.bl++(R1++N)]) [[(z,K.te,cs.toArray)],[(g8,K.te,cs.toArray)]] [1,3,0,2] kZ (by rfl) (by simp) (by simp) h)
 ·rintro D fz ⟨l,r,s,sl,N,xo⟩ ⟨m,s1,hA1,hs1,hlm,hI,hdn⟩ hD hD2 hmk h0
  dsimp only at hI hdn hlm ⊢
  have hse:s.e≤200:=hI.e
  have hrest:s.rest.length≤s0.rest.length:=Nat.le_trans hI.rest hs1
  refine Sy.in_<|Sy.then_<|Sy.seq<|sC ?_
  obtain ⟨b1,hb1⟩:=xE (decide (s.e≠0))
  refine sp J<|sS (.int .i64 (s.e:Int)) (qg (λw hw=>D0 (ab w0.world fz D) gr sl s.e [] (List.mem_cons_of_mem _ (List.mem_cons_self ..)) w hw))<|sS (.bool b1) (qne J J J hb1)<|sG ?_
  cases b1
  ·have l1:s.e=0:=Decidable.of_not_not (of_decide_eq_false hb1.symm)
   obtain ⟨z1,z2⟩:=hI.yes l1
   rw [hdn l1] at z2
   refine sU<|Sy.skip<|sB<|sS r.v (qc 2 0 J J hK.uts)<|sp J<|sG<|Sy.ret<|Sy.retTM1 (b0:=w0) (M:=CRN gc gr sl s.e (R++(N++r.bl))) J (.inl (show _=_ by kernel_rfl)) (λw h=>Sy.St.parts (ls:=[[(gc,134,#[.pointer none,ptr gr,.bool false]),(gr,253,#[sl,.int .i64 (s.e:Int)])],[(gl,K.ts,#[r.v])],r.bl,R,[(a,132,#[ptr gr]),(b,3,#[.int .i64 (most:Int)]),(c,K.fr,#[.func (.func K.f1) #[] #[ptr g7,ptr g4]])],N]) (ms:=[[(gc,134,#[.pointer none,ptr gr,.bool false]),(gr,253,#[sl,.int .i64 (s.e:Int)])],R,N,r.bl]) [[(gl,K.ts,#[r.v])],[(a,132,#[ptr gr]),(b,3,#[.int .i64 (most:Int)]),(c,K.fr,#[.func (.func K.f1) #[] #[ptr g7,ptr g4]])]] [0,3,5,2,1,4] kZ (by rfl) (by rw [hR1]; simp) (by simp) h) ⟨l,s,sl,N++r.bl,hA1.bind ⟨λh=>(h z1).elim,λy q _ hy=>?_,λ_ hy=>?_⟩,RowsOk.lst (rep:=rep) hm hI.rows,hse,hrest,hI.byt,rfl⟩ hD hD2 hmk h0.out
   ·rw [z2] at hy
    cases hy
    exact ⟨rfl,by rw [← l1]⟩
   ·rw [z2] at hy; cases hy
  ·have l1:=dY hb1
   refine sT<|sC<|sP (.slice none 0 0)<|sG<|Sy.ret<|Sy.then_ret<|Sy.retTM1 (b0:=w0) (M:=CRN gc gr sl s.e (R++[])) J (.inl (show _=_ by kernel_rfl)) (λw h=>Sy.St.parts (ls:=[[(gc,134,#[.pointer none,ptr gr,.bool false]),(gr,253,#[sl,.int .i64 (s.e:Int)])],[(gl,K.ts,#[r.v])],r.bl,R,[(a,132,#[ptr gr]),(b,3,#[.int .i64 (most:Int)]),(c,K.fr,#[.func (.func K.f1) #[] #[ptr g7,ptr g4]])],N]) (ms:=[[(gc,134,#[.pointer none,ptr gr,.bool false]),(gr,253,#[sl,.int .i64 (s.e:Int)])],R]) [[(gl,K.ts,#[r.v])],r.bl,[(a,132,#[ptr gr]),(b,3,#[.int .i64 (most:Int)]),(c,K.fr,#[.func (.func K.f1) #[] #[ptr g7,ptr g4]])],N] [0,3,1,2,4,5] kZ (by rfl) (by rw [hR1]; simp) (by simp) h) ⟨[],s,sl,[],hA1.bind ⟨λ_=>l1,λy q h1 hy=>?_,λ_ _=>l1⟩,⟨none,0,0,rfl,rfl,Nat.le_refl _,Nat.zero_le _,λh=>(h J).elim⟩,hse,hrest,hI.byt,rfl⟩ hD hD2 hmk h0.out
   rcases hI.no l1 with h | h
   ·exact (h h1).elim
   ·rw [h] at hy; cases hy
theorem Ea {K:LK} (hK:K.Ok) (hm:BN rep) (hp:B7 K.fe K.k K.z rep p) (w0:Base) (gc gr gx f most:Nat) (hmost:most<1000000) (tx:TypeId) (A Z:List Value) (sl:Value) (s:RS) (R S:AA) (hS:∀ b∈S,b∈R) (hA:A.length=f) (he:s.e≤200) (hl:s.rest.length≤70368744177664) (hv:BytR (rdC w0 S) sl s.rest) (w:World) (hw:St w0 w (CRS gc gr gx tx (A++([Value.slice none 0 0]++Z)) sl s.e R)) :
  AL K.f0 #[ptr gc,pT gx f,.int .i64 (most:Int),.func (.func K.fe) #[] #[]] w (AQ w0 (RdT 1 (Iz K.k rep) (Ch most p) w0 gc gr gx tx A Z s R S)):=by
 obtain ⟨nm,tn,hf⟩:=hK.c_f0
 obtain ⟨dE,hE,hE2⟩:=hK.ute
 obtain ⟨dW,hW,hW2⟩:=hK.ufw
 obtain ⟨dR,hR_,hR2_⟩:=hK.ufr
 refine Sy.enterT (args:=[ptr gc,pT gx f,.int .i64 (most:Int),.func (.func K.fe) #[] #[]]) hw hf J kL<|sC<|sM 85 #[ptr gc] (λg4=>?_)
 refine sM K.fw #[.func (.func K.fe) #[] #[]] (hg:=kR) (hm:=λw=>H8 (v:=.func (.func K.fe) #[] #[]) J J J hK.ifw w) (λg7=>?_)
 obtain ⟨R1,hR1⟩:=xE (R++([(g4,85,#[ptr gc])]++[(g7,K.fw,#[.func (.func K.fe) #[] #[]])]))
 refine Sy.permS (M:=CRS gc gr gx tx (A++([Value.slice none 0 0]++Z)) sl s.e R1) (List.Perm.of_eq (by rw [hR1]; simp)) ?_
 have mR:∀ x∈R,x∈R1:=λx hx=>by rw [hR1]; exact List.mem_append_left _ hx
 have m4:(g4,85,#[ptr gc])∈R1:=by rw [hR1]; simp
 have m7:(g7,K.fw,#[.func (.func K.fe) #[] #[]])∈R1:=by rw [hR1]; simp
 refine sG<|Sy.seq<|sC<|sS (ptr gc) (AK (R:=R1) (CM m4) I2 J FN)<|sS (.bool true) (qg (λw hw=>Cs w0.inn gc gr _ _ (List.mem_cons_self ..) w hw))<|sG<|sT<|sC<|sp J<|sS (ptr gc) (AK (R:=R1) (CM m4) I2 J FN)<|sp J<|sP (pT gc 1)<|sS (ptr gr) (qc 0 1 J J CV)<|sp J<|sP (.func (.func K.f1) #[] #[ptr g7,ptr g4])<|Sy.callT (he:=by intro w; exact C7 J J kZ (hK.e_fL _ w)) (λw hw=>Qj (rep:=rep) (p:=p) hK hm hp w0.inn gc gr g4 g7 most hmost sl s ((gx,tx,(A++([Value.slice none 0 0]++Z)).toArray)::R1) S (λx h=>List.mem_cons_of_mem _ (mR x (hS x h))) (List.mem_cons_of_mem _ m4) (List.mem_cons_of_mem _ m7) he hl hv w (hw.perm Bs)) (λv M hM=>?_)
 obtain ⟨l,s',sl',N,q1,q2,q3,q4,q5,rfl⟩:=hM
 refine Sy.permS (M:=CRS gc gr gx tx (A++([Value.slice none 0 0]++Z)) sl' s'.e (R1++N)) Bs<|sp J<|sw 1 J (A++([v]++Z)).toArray (Writes.one f K.ts v _ _ J kR kR hK.its q2.cells.1 q2.cells.2 (by rw [List.size_toArray,List.length_append,hA]; exact Nat.lt_add_of_pos_right (Nat.succ_pos _)) (Bt hA))<|sG<|Sy.ret<|Sy.then_ret ?_
 exact Sy.retT0 J (CRS gc gr gx tx (A++([v]++Z)) sl' s'.e (R++N)) (λw h=>Sy.St.parts (ls:=[[(gc,134,#[.pointer none,ptr gr,.bool false]),(gx,tx,(A++([v]++Z)).toArray),(gr,253,#[sl',.int .i64 (s'.e:Int)])],R,[(g4,85,#[ptr gc])]++[(g7,K.fw,#[.func (.func K.fe) #[] #[]])],N]) (ms:=[[(gc,134,#[.pointer none,ptr gr,.bool false]),(gx,tx,(A++([v]++Z)).toArray),(gr,253,#[sl',.int .i64 (s'.e:Int)])],R,N]) [[(g4,85,#[ptr gc])]++[(g7,K.fw,#[.func (.func K.fe) #[] #[]])]] [0,1,3,2] kZ (by rfl) (by rw [hR1]; simp) (by simp) h) (λ_=>⟨l,s',sl',[v],N,q1,rfl,λu hu=>by rw [List.mem_singleton.1 hu]; exact q2.cells.2,⟨v,rfl,q2⟩,q3,q4,q5,rfl⟩)
end
noncomputable def Q0:TypeInfo:=(Tryz.prog.info? 98).getD default
theorem NQ:Tryz.prog.info? 98=some Q0:=kZ
noncomputable def K_mo:LK:=⟨98,99,264,320,265,321,323,370,369,394,133,183,184,185,186,223,250,134,33,40,([Value.int .u64 0]++Z32),Q0⟩
theorem Td:K_mo.Ok:={
 c_f0:=⟨_,_,Tryz.func133⟩,
 c_fL:=⟨_,_,Tryz.func183⟩,
 c_f1:=⟨_,_,Tryz.func184⟩,
 c_fP:=⟨_,_,Tryz.func185⟩,
 c_f2:=⟨_,_,Tryz.func186⟩,
 c_fI:=⟨_,_,Tryz.func223⟩,
 c_fJ:=⟨_,_,Tryz.func250⟩,
 ute:=⟨_,V_,rfl⟩,
 uts:=PG,
 ufw:=⟨_,U8,rfl⟩,
 ufr:=⟨_,U2,rfl⟩,
 inf:=NQ,
 zero:=⟨_,rfl,by kernel_rfl⟩,
 size:=rfl,
 byt:=rfl,
 zl:=kZ,
 pos:=(by decide:0<33),
 top:=(by decide:33≤16777216),
 btop:=(by decide:40≤100000000),
 its:=kZ,
 ifw:=kZ,
 ifr:=kZ,
 zts:=⟨(Tryz.prog.info? 99).getD default,by kernel_rfl,by kernel_rfl⟩,
 e_fe:=enters_of Tryz.func134 kR J,
 e_f2:=enters_of Tryz.func186 kR J,
 e_fP:=enters_of Tryz.func185 kR J,
 e_f1:=enters_of Tryz.func184 kR J,
 e_fL:=enters_of Tryz.func183 kR J,
 e_fI:=enters_of Tryz.func223 kR J,
 e_fJ:=enters_of Tryz.func250 kR J }
theorem Oq {α:Type} {rep:Rdr→List Value→α→Prop} {ok:α→Bool} {enc:α→Byt} {wt:α→Nat} (hm:BN rep) (hp:PutC 134 33 rep ok enc wt) (w0:Base) (gc gw gx f most:Nat) (hmo:most<1000000) (bad:Bool) (s:Slc) (R:AA) (b:Byt) (v:Value) (l:List α) (hv:LstR (rdC w0 R) 33 rep v l) (hc:rdC w0 R gx f v) (hb:BS s b) (hlen:b.length+(9+(l.map wt).sum)≤70368744170000) (w:World) (hw:St w0 w (CWS gc gw bad s R)) :
  Calls Tryz.prog 133 #[ptr gc,pT gx f,.int .i64 (most:Int),.func (.func 134) #[] #[]] w (AQ w0 (WrC gc gw R (decide (l.length≤most) && l.all ok) (Ap l.length++l.flatMap enc) (9+(l.map wt).sum) bad b)):=EZ (rep:=rep) (ok:=ok) (enc:=enc) (wt:=wt) Td hm hp.own w0 gc gw gx f most hmo bad s R b v l hv hc hb hlen w hw
theorem Ot {α:Type} {rep:Rdr→List Value→α→Prop} {p:Ps α} (hm:BN rep) (hp:B7 134 33 (([Value.int .u64 0]++Z32)) rep p) (w0:Base) (gc gr gx f most:Nat) (hmost:most<1000000) (tx:TypeId) (A Z:List Value) (sl:Value) (s:RS) (R S:AA) (hS:∀ b∈S,b∈R) (hA:A.length=f) (he:s.e≤200) (hl:s.rest.length≤70368744177664) (hv:BytR (rdC w0 S) sl s.rest) (w:World) (hw:St w0 w (CRS gc gr gx tx (A++([Value.slice none 0 0]++Z)) sl s.e R)) :
  Calls Tryz.prog 133 #[ptr gc,pT gx f,.int .i64 (most:Int),.func (.func 134) #[] #[]] w (AQ w0 (RdT 1 (Iz 33 rep) (Ch most p) w0 gc gr gx tx A Z s R S)):=Ea (rep:=rep) (p:=p) Td hm hp w0 gc gr gx f most hmost tx A Z sl s R S hS hA he hl hv w hw
theorem Qf:PutC 76 2 G4 ST RG T3:=λw0 gc gw gx f bad s R b cs x hx _ hc hb hl w hw=>by
 obtain ⟨v,rfl,h1,h2⟩:=hx
 unfold T3 at hl
 refine Sy.enterT (args:=[ptr gc,pT gx f]) hw Tryz.func76 J kL<|sC<|sp J<|sp J<|sp J<|sP (pT gx f)<|Sy.callT (λw hw=>Fm w0.inn gc gw gx f bad s R b x.nonce h1 hc.one hb om w hw) (λu M hM=>?_)
 obtain ⟨s1,bad1,b1,q1,q2,rfl⟩:=hM
 have l1:=q1.len
 refine Sy.nil<|Sy.then_<|Sy.region<|sp J<|sp J<|sp J<|sP (pT gx (f+1))<|Sy.callT (λw hw=>Oq (rep:=G5) J5 Ol w0.inn gc gw gx (f+1) 16 dZ bad1 s1 R b1 v x.outs h2 hc.tail.one q2 om w hw) (λu M hM=>?_)
 obtain ⟨s2,bad2,b2,q3,q4,rfl⟩:=hM
 refine Sy.nil ?_
 have q:=q1.then_ q3
 rw [Bool.true_and,DP,Bool.and_true] at q
 exact Sy.retT0 J (CWS gc gw bad2 s2 R) (λ_ h=>h) (λ_=>⟨s2,bad2,b2,q,q4,rfl⟩)
theorem AD {a b:List Value} (ha:∀ u∈a,u.oneCell'=true) (hb:∀ u∈b,u.oneCell'=true):∀ u∈a++b,u.oneCell'=true:=λu hu=>(List.mem_append.1 hu).elim (ha u) (hb u)
theorem Om:B7 134 33 ([Value.int .u64 0]++Z32) G5 UB:=λw0 gc gr gx f tx A Z sl s R S hS hA he hl hv w hw=>by
 refine Sy.enterT (args:=[ptr gc,pT gx f]) hw Tryz.func134 J kL<|sC<|sp J<|sp J<|sp J<|sP (pT gx f)<|Sy.callT (λw hw=>Fo w0.inn gc gr gx f tx A (Z32++Z) sl s R S hS hA he hl hv w hw) (λu M hM=>?_)
 obtain ⟨x1,s1,sl1,cs1,N1,a1,a2,a3,⟨rfl,a4⟩,a5,a6,a7,rfl⟩:=hM
 refine Sy.nil<|Sy.then_<|Sy.region<|sp J<|sp J<|sp J<|sP (pT gx (f+1))<|Sy.callT (λw hw=>Cy w0.inn gc gr gx (f+1) tx (A++[uZ (x1:Int)]) Z sl1 s1 (R++N1) S (λb h=>List.mem_append_left _ (hS b h)) (by rw [List.length_append,hA]; rfl) a5 (Nat.le_trans a6 hl) a7 w (by rw [List.append_assoc]; exact hw)) (λu M hM=>?_)
 obtain ⟨x2,s2,sl2,cs2,N2,b1,b2,b3,⟨rfl,b4⟩,b5,b6,b7,rfl⟩:=hM
 refine Sy.nil ?_
 exact Sy.retT0 J (CRS gc gr gx tx (A++(([uZ (x1:Int)]++x2.map bv)++Z)) sl2 s2.e (R++(N1++N2))) (λ_ h=>by simpa only [List.append_assoc] using h) (λ_=>⟨⟨x1,x2⟩,s2,sl2,_,N1++N2,a1.bind (b1.bind (After.ret _ _)),by rw [List.length_append,a2,b2],AD a3 b3,⟨rfl,a4,b4⟩,b5,Nat.le_trans b6 a6,b7,rfl⟩)
theorem Qg:B7 76 2 ([Value.int .u64 0]++[Value.slice none 0 0]) G4 R5:=λw0 gc gr gx f tx A Z sl s R S hS hA he hl hv w hw=>by
 refine Sy.enterT (args:=[ptr gc,pT gx f]) hw Tryz.func76 J kL<|sC<|sp J<|sp J<|sp J<|sP (pT gx f)<|Sy.callT (λw hw=>Fo w0.inn gc gr gx f tx A ([Value.slice none 0 0]++Z) sl s R S hS hA he hl hv w hw) (λu M hM=>?_)
 obtain ⟨x1,s1,sl1,cs1,N1,a1,a2,a3,⟨rfl,a4⟩,a5,a6,a7,rfl⟩:=hM
 refine Sy.nil<|Sy.then_<|Sy.region<|sp J<|sp J<|sp J<|sP (pT gx (f+1))<|Sy.callT (λw hw=>Ot (rep:=G5) (p:=UB) J5 Om w0.inn gc gr gx (f+1) 16 dZ tx (A++[uZ (x1:Int)]) Z sl1 s1 (R++N1) S (λb h=>List.mem_append_left _ (hS b h)) (by rw [List.length_append,hA]; rfl) a5 (Nat.le_trans a6 hl) a7 w (by rw [List.append_assoc]; exact hw)) (λu M hM=>?_)
 obtain ⟨x2,s2,sl2,cs2,N2,b1,b2,b3,⟨v,rfl,b4⟩,b5,b6,b7,rfl⟩:=hM
 refine Sy.nil ?_
 exact Sy.retT0 J (CRS gc gr gx tx (A++(([uZ (x1:Int)]++[v])++Z)) sl2 s2.e (R++(N1++N2))) (λ_ h=>by simpa only [List.append_assoc] using h) (λ_=>⟨⟨x1,x2⟩,s2,sl2,_,N1++N2,a1.bind (b1.bind (After.ret _ _)),rfl,AD a3 b3,⟨v,rfl,a4,LstR.le (rep:=G5) J5 (AV λb h=>List.mem_append_right _ h) b4⟩,b5,Nat.le_trans b6 a6,b7,rfl⟩)
def RdE {α:Type} (k:Nat) (zc:List Value) (rep:Rdr→List Value→α→Prop) (o:Option α) (u:Value) (M:AA):Prop:=(∃ x cs,o=some x∧u=.tuple #[.agg cs.toArray,.int .i64 0]∧cs.length=k∧rep (rdB M) cs x)∨(o=none∧u=.tuple #[.agg zc.toArray,.int .i64 120]∧M=[])
theorem Mj {α:Type} {p:Ps α} {b:Byt} {x:α} {s':RS} (h:After p ⟨b,0⟩ x s'):(s'.e=0→s'.rest=[]→Gc p b=some x)∧(s'.e≠0∨s'.rest≠[]→Gc p b=none):=by
 have e:Gc p b=match p b with | some (x,[])=>some x | _=>none:=rfl
 refine ⟨λh1 h2=>?_,λh1=>?_⟩
 ·rw [e,show p b=some (x,s'.rest) from h.ok J h1,h2]
 ·rw [e]
  cases hp:p b with
  | none=>rfl
  | some u =>
   obtain ⟨y,r⟩:=u
   obtain ⟨_,hs⟩:=h.yes y r J hp
   rw [hs] at h1
   cases r with
   | nil=>rcases h1 with h1 | h1 <;> exact (h1 J).elim
   | cons=>rfl
theorem Ve {C:Rdr} {cs:List Value} {t:MTx} (h:G4 C cs t):∀ u∈cs,u.oneCell'=true:=by
 obtain ⟨v,rfl,_,h⟩:=h
 intro u hu
 rcases List.mem_cons.1 hu with rfl | hu
 ·rfl
 ·rw [List.mem_singleton.1 hu]; exact h.cells.2
theorem Pu {α:Type} {rep:Rdr→List Value→α→Prop} {p:Ps α} (hm:BN rep) (hp:B7 76 2 (([Value.int .u64 0]++[Value.slice none 0 0])) rep p) (w:World) (v:Value) (b:Byt) (hv:BytR (rdW w) v b) (hl:b.length≤70368744177664) :
  AL 77 #[v,.func (.func 76) #[] #[]] w (BD w (RdE 2 (([Value.int .u64 0]++[Value.slice none 0 0])) rep (Gc p b))):=by
 refine Sy.enter (args:=[v,.func (.func 76) #[] #[]]) Tryz.func77 J kL<|sC<|sM 101 (([Value.int .u64 0]++[Value.slice none 0 0])).toArray (λg4=>?_)
 refine sP (.int .i64 0)<|sA<|sM 101 (([Value.int .u64 0]++[Value.slice none 0 0])).toArray (λg6=>?_)
 refine sM 101 (([Value.int .u64 0]++[Value.slice none 0 0])).toArray (λg7=>?_)
 refine sA<|sp J<|Sy.callN kR 67 #[v] kF _ (λw' hw=>read_any w' v b (hv.at hw) hl) (λu M hM=>?_)
 obtain ⟨gr,sl,N0,hN0,rfl,rfl⟩:=hM
 refine sP (.agg #[.pointer none,ptr gr,.bool false])<|sM 134 #[.pointer none,ptr gr,.bool false] (λgc=>?_)
 refine Sy.permS (M:=CRS gc gr g6 101 ([]++((([Value.int .u64 0]++[Value.slice none 0 0]))++[])) sl 0 ((g4,101,(([Value.int .u64 0]++[Value.slice none 0 0])).toArray)::(g7,101,(([Value.int .u64 0]++[Value.slice none 0 0])).toArray)::N0)) (Sy.flat_perm (ls:=[[(g4,101,(([Value.int .u64 0]++[Value.slice none 0 0])).toArray)],[(g6,101,(([Value.int .u64 0]++[Value.slice none 0 0])).toArray)],[(g7,101,(([Value.int .u64 0]++[Value.slice none 0 0])).toArray)],[(gr,253,#[sl,.int .i64 0])],N0,[(gc,134,#[.pointer none,ptr gr,.bool false])]]) (ms:=[[(gc,134,#[.pointer none,ptr gr,.bool false])],[(g6,101,(([Value.int .u64 0]++[Value.slice none 0 0])).toArray)],[(gr,253,#[sl,.int .i64 0])],[(g4,101,(([Value.int .u64 0]++[Value.slice none 0 0])).toArray)],[(g7,101,(([Value.int .u64 0]++[Value.slice none 0 0])).toArray)],N0]) [5,1,3,0,2,4] kZ (by rfl) (by simp) (by simp))<|sp J<|sA<|sp J<|sp J<|Sy.callT (λw' hw=>hp (Base.of w) gc gr g6 0 101 [] [] sl ⟨b,0⟩ ((g4,101,(([Value.int .u64 0]++[Value.slice none 0 0])).toArray)::(g7,101,(([Value.int .u64 0]++[Value.slice none 0 0])).toArray)::N0) N0 (λx h=>List.mem_cons_of_mem _ (List.mem_cons_of_mem _ h)) J (Nat.zero_le _) hl (hN0.byt.le ID) w' hw) (λu M hM=>?_)
 obtain ⟨x,s',sl',cs,N,q1,q2,q3,q4,q5,q6,q7,rfl⟩:=hM
 rw [List.append_nil]
 obtain ⟨o1,o2⟩:=Mj q1
 obtain ⟨e,hE⟩:=xE (if s'.e=0∧0<s'.rest.length then 113 else s'.e)
 have hEl:e≤200:=by rw [hE]; split <;> omega
 refine sG<|Sy.seq<|sC ?_
 obtain ⟨b1,hb1⟩:=xE (decide (e≠0))
 refine sp J<|sp J<|sP (pT gc 1)<|sS (ptr gr) (qc 0 1 J J CV)<|sS (.int .i64 (e:Int)) (qg (λw' hw=>by rw [hE]; exact Nc (Base.of w) gr sl' s' N0 q5 q7 (List.mem_cons_of_mem _ (List.mem_cons_of_mem _ (List.mem_cons_self ..))) w' hw))<|sS (.bool b1) (qne J J J hb1)<|sG ?_
 cases b1
 ·have l1:e=0:=Decidable.of_not_not (of_decide_eq_false hb1.symm)
  have l2:s'.e=0∧s'.rest=[]:=by
   by_cases h:s'.e=0∧0<s'.rest.length
   ·rw [if_pos h] at hE; omega
   ·rw [if_neg h] at hE
    exact ⟨by omega,List.eq_nil_of_length_eq_zero om⟩
  refine sU<|Sy.skip<|sB<|sS (.agg cs.toArray) (Quiet.mid 1 g6 0 2 101 101 cs cs _ _ J kR J H2 J kR (by rw [List.drop_zero,List.take_of_length_le om]) om)<|sw 3 J cs.toArray (Writes.row 101 cs 2 _ _ J kR kR kR q2 kZ q3)<|sP (.int .i64 0)<|sG<|Sy.ret ?_
  exact Sy.retGM2 N J (.inl (Sy.Res.cell (ty':=101) g4 3 cs.toArray _ kZ J H2 J (by rw [List.size_toArray,q2]; kernel_rfl) rfl)) (.inl (show _=_ by kernel_rfl)) (λ_ h=>h.less (List.sublist_append_right [(gc,134,#[.pointer none,ptr gr,.bool false]),(g6,101,cs.toArray),(gr,253,#[sl',.int .i64 (s'.e:Int)]),(g4,101,cs.toArray),(g7,101,(([Value.int .u64 0]++[Value.slice none 0 0])).toArray)] (N0++N) |> λh1=>(List.sublist_append_right N0 N).trans h1)) (.inl ⟨x,cs,o1 l2.1 l2.2,rfl,q2,q4⟩)
 ·have l1:=dY hb1
  have l2:s'.e≠0∨s'.rest≠[]:=by
   by_cases h:s'.e=0∧0<s'.rest.length
   ·exact .inr (λe=>by rw [e] at h; exact absurd h.2 dZ)
   ·rw [if_neg h] at hE; exact .inl om
  refine sT<|sC<|sS (.agg (([Value.int .u64 0]++[Value.slice none 0 0])).toArray) (qk 4 0 2 J J H2)<|sw 3 J (([Value.int .u64 0]++[Value.slice none 0 0])).toArray (wA J)<|sP (.int .i64 120)<|sG<|Sy.ret<|Sy.then_ret ?_
  exact Sy.retGM2 [] rfl (.inl (Sy.Res.cell (ty':=101) g4 3 (([Value.int .u64 0]++[Value.slice none 0 0])).toArray _ kZ J H2 J kZ J)) (.inl (show _=_ by kernel_rfl)) (λ_ h=>h.none) (.inr ⟨o2 l2,rfl,rfl⟩)
theorem R0 {α:Type} {rep:Rdr→List Value→α→Prop} {p:Ps α} (hm:BN rep) (hone:∀ {C:Rdr} {cs:List Value} {x:α},rep C cs x→∀ u∈cs,u.oneCell'=true) (hp:B7 76 2 (([Value.int .u64 0]++[Value.slice none 0 0])) rep p) (w:World) (v:Value) (b:Byt) (hv:BytR (rdW w) v b) (hl:b.length≤70368744177664) :
  AL 36 #[v] w (BD w (RdE 2 (([Value.int .u64 0]++[Value.slice none 0 0])) rep (Gc p b))):=by
 refine Sy.enter (args:=[v]) Tryz.func36 J kL<|sC<|sM 101 (([Value.int .u64 0]++[Value.slice none 0 0])).toArray (λg2=>?_)
 refine sP (.int .i64 0)<|sA<|sp J<|Sy.callN kR 77 #[v,.func (.func 76) #[] #[]] kF _ (λw' hw=>Pu (rep:=rep) (p:=p) hm hp w' v b (hv.at hw) hl) (λu M hM=>?_)
 rcases hM with ⟨x,cs,o1,rfl,q2,q4⟩ | ⟨o1,rfl,rfl⟩
 ·have q3:∀ u∈cs,u.oneCell'=true:=hone q4
  refine sp J<|sp J<|sw 0 J cs.toArray (Writes.row 101 cs 2 _ _ J kR kR kR q2 kZ q3)<|sp J<|sG<|Sy.ret ?_
  exact Sy.retGM2 M J (.inl (Sy.Res.cell (ty':=101) g2 0 cs.toArray _ kZ J H2 J (by rw [List.size_toArray,q2]; kernel_rfl) rfl)) (.inl (show _=_ by kernel_rfl)) (λ_ h=>h.less (List.sublist_cons_self _ _)) (.inl ⟨x,cs,o1,rfl,q2,q4⟩)
 ·refine sp J<|sp J<|sw 0 J (([Value.int .u64 0]++[Value.slice none 0 0])).toArray (wA J)<|sp J ?_
  refine sG<|Sy.ret ?_
  exact Sy.retGM2 [] rfl (.inl (Sy.Res.cell (ty':=101) g2 0 (([Value.int .u64 0]++[Value.slice none 0 0])).toArray _ kZ J H2 J kZ J)) (.inl (show _=_ by kernel_rfl)) (λ_ h=>h.none) (.inr ⟨o1,rfl,rfl⟩)
end Wr
end
section
namespace Wr
open Go.RowKit Sy
open Go.ChangeShapes Go.WideShapes Go.ChangeAt Go.Deep
theorem C0 {H:Type} (d:DataW H):1≤Rows.uptoBulk d:=by
 cases d with
 | lit l=>cases l <;> simp [Rows.uptoBulk]
 | _=>simp [Rows.uptoBulk]
theorem LQ {H:Type}:∀ a b:List (DataW H),Rows.uptoBulkAll (a++b)=Rows.uptoBulkAll a+Rows.uptoBulkAll b
 | [],b=>by simp [Rows.uptoBulkAll]
 | d::a,b=>by
  have h:=LQ a b
  simp only [List.cons_append,Rows.uptoBulkAll]
  omega
theorem LN {W:World} {base:Nat} {a:Addr} {n:Nat} {cs:List Value} (h:W.cells? base a n=some cs):∀ (j:Nat) (v:Value),cs[j]? = some v→W.cell? (a.add j)=some v:=λj v hj=>by
 unfold World.cells? at h
 split at h
 ·have hl:=Lib.mapM_length h
  have hjl:j<n:=by
   have:=(List.getElem?_eq_some_iff.1 hj).1
   simp at hl
   omega
  obtain ⟨b,hb,hf⟩:=Lib.mapM_at h j j (by simp [hjl])
  rw [hb] at hj
  injection hj with hj
  rw [hf,hj]
 ·cases h
theorem Il {W:World} {base:Nat} {a:Addr} {n:Nat} {cs:List Value} (h:W.cells? base a n=some cs):cs.length=n:=by
 unfold World.cells? at h
 split at h
 ·have hl:=Lib.mapM_length h
  simpa using hl
 ·cases h
theorem TF {w:World} {a:Addr} {v:Value} (h:w.cell? a=some v):∃ b o,a=⟨b,o,none⟩∧b<w.heap.size:=by
 obtain ⟨b,o,k⟩:=a
 unfold World.cell? at h
 cases k with
 | none =>
  refine ⟨b,o,rfl,?_⟩
  rcases Nat.lt_or_ge b w.heap.size with hl | hl
  ·exact hl
  ·simp [Array.getElem?_eq_none hl] at h
 | some k=>exfalso; cases hw:w.heap[b]? with
  | none=>simp [hw] at h
  | some ob=>cases ob <;> simp [hw] at h
theorem Rj (b o n:Nat):(⟨b,o,none⟩:Addr).add n=⟨b,o+n,none⟩:=by unfold Addr.add; split <;> simp_all
theorem Sj {α H:Type} {n:Nat} {p:Nat→α→Prop} {sz:α→Nat} {D:Nat→DataW H} (h:∀ i,i<n→∃ x,p i x∧sz x<Rows.uptoBulk (D i)):∃ l:List α,l.length=n∧(∀ i x,l[i]? = some x→p i x)∧l.length+(l.map sz).sum≤Rows.uptoBulkAll ((List.range n).map D):=by
 induction n with
 | zero=>exact ⟨[],rfl,λi x h=>(by cases h),Nat.zero_le _⟩
 | succ n ih =>
  obtain ⟨l,h1,h2,h3⟩:=ih λi hi=>h i om
  obtain ⟨x,hx,hs⟩:=h n om
  refine ⟨l++[x],by rw [List.length_append,h1]; rfl,λi y hy=>?_,?_⟩
  ·rcases Nat.lt_or_ge i l.length with hi | hi
   ·rw [List.getElem?_append_left hi] at hy
    exact h2 i y hy
   ·rw [List.getElem?_append_right hi] at hy
    cases hk:i - l.length with
    | zero =>
     rw [hk] at hy
     cases hy
     obtain rfl:i=n:=om
     exact hx
    | succ k=>rw [hk] at hy; cases hy
  ·simp only [List.range_succ,List.map_append,LQ,List.sum_append,List.length_append,List.map_cons,List.map_nil,List.sum_cons,List.sum_nil,List.length_cons,List.length_nil,Rows.uptoBulkAll]
   omega
structure Opn {α:Type} (t:TypeId) (k:Nat) (rep:Rdr→List Value→α→Prop) (sz:α→Nat):Prop where
 go:∀ {H:Type} {enc:TypeId×Value→H} {W:World} {fuel:Nat} {cs:List Value} {x:DataW H×List MemPlace},cs.length=k→DataW.trod enc Tryz.prog W 0 (λ_=>true) true fuel t cs=some x→∃ y,rep (rdW W) cs y∧(∀ u∈cs,u.oneCell'=true)∧sz y<Rows.uptoBulk x.1
theorem Opn.as {α β:Type} {t:TypeId} {k:Nat} {rep:Rdr→List Value→α→Prop} {sz:α→Nat} {rep':Rdr→List Value→β→Prop} {sz':β→Nat} (h:Opn t k rep sz) (hr:∀ C cs x,rep C cs x→∃ y,rep' C cs y∧sz' y≤sz x):Opn t k rep' sz':=⟨λhl hf=>by
 obtain ⟨x,h1,h2,h3⟩:=h.go hl hf
 obtain ⟨y,h4,h5⟩:=hr _ _ _ h1
 exact ⟨y,h4,h2,by omega⟩⟩
def VH (_:Rdr) (cs:List Value) (n:Nat):Prop:=cs=[.int .u64 (n:Int)]∧n<18446744073709551616
def VG (_:Rdr) (cs:List Value) (n:Nat):Prop:=cs=[.int .u32 (n:Int)]∧n<4294967296
def WL (_:Rdr) (cs:List Value) (z:Int):Prop:=cs=[.int .i64 z]
def WN (_:Rdr) (cs:List Value) (b:Bool):Prop:=cs=[.bool b]
def VK (_:Rdr) (cs:List Value) (u:UInt8):Prop:=cs=[bv u]
def UA (n:Nat) (_:Rdr) (cs:List Value) (b:Byt):Prop:=cs=b.map bv∧b.length=n
def repT (C:Rdr) (cs:List Value) (b:Byt):Prop:=∃ v,cs=[v]∧BytR C v b
theorem VZ {t:TypeId} (ht:Tryz.prog.underlying t=some (.int .u64)):Opn t 1 VH (λ_=>0):=⟨λhl hf=>by
 obtain ⟨z,rfl,hx,w⟩:=DataW.trod_int ht hf
 have hz:0≤z∧z<18446744073709551616:=by
  simp [Lit.wf,IntKind.bits,IntKind.signed,IntKind.min,IntKind.max] at w
  omega
 refine ⟨z.toNat,⟨by rw [show ((z.toNat:Nat):Int)=z by omega],by omega⟩,λu hu=>by rw [List.mem_singleton.1 hu]; rfl,C0 _⟩⟩
theorem VY {t:TypeId} (ht:Tryz.prog.underlying t=some (.int .u32)):Opn t 1 VG (λ_=>0):=⟨λhl hf=>by
 obtain ⟨z,rfl,hx,w⟩:=DataW.trod_int ht hf
 have hz:0≤z∧z<4294967296:=by
  simp [Lit.wf,IntKind.bits,IntKind.signed,IntKind.min,IntKind.max] at w
  omega
 refine ⟨z.toNat,⟨by rw [show ((z.toNat:Nat):Int)=z by omega],by omega⟩,λu hu=>by rw [List.mem_singleton.1 hu]; rfl,C0 _⟩⟩
theorem Vb {t:TypeId} (ht:Tryz.prog.underlying t=some (.int .u8)):Opn t 1 VK (λ_=>0):=⟨λhl hf=>by
 obtain ⟨z,rfl,hx,w⟩:=DataW.trod_int ht hf
 have hz:0≤z∧z<256:=by
  simp [Lit.wf,IntKind.bits,IntKind.signed,IntKind.min,IntKind.max] at w
  omega
 refine ⟨UInt8.ofNat z.toNat,?_,λu hu=>by rw [List.mem_singleton.1 hu]; rfl,C0 _⟩
 unfold VK bv
 rw [UInt8.toNat_ofNat',show ((z.toNat%2 ^ 8:Nat):Int)=z by omega]⟩
theorem Ko {t:TypeId} (ht:Tryz.prog.underlying t=some (.int .i64)):Opn t 1 WL (λ_=>0):=⟨λhl hf=>by
 obtain ⟨z,rfl,hx,w⟩:=DataW.trod_int ht hf
 exact ⟨z,rfl,λu hu=>by rw [List.mem_singleton.1 hu]; rfl,C0 _⟩⟩
theorem M_ {t:TypeId} (ht:Tryz.prog.underlying t=some .bool):Opn t 1 WN (λ_=>0):=⟨λhl hf=>by
 obtain ⟨z,rfl,hx⟩:=DataW.trod_bool ht hf
 exact ⟨z,rfl,λu hu=>by rw [List.mem_singleton.1 hu]; rfl,C0 _⟩⟩
theorem QJ {t e:TypeId} {n:Nat} (ht:Tryz.prog.underlying t=some (.array n e)) (he:Tryz.prog.underlying e=some (.int .u8)) (hce:Tryz.prog.cellsOf e=1) (hct:Tryz.prog.cellsOf t=n):Opn t n (UA n) (λ_=>0):=⟨λ{H enc W fuel cs x} hl hf=>by
 cases fuel with
 | zero=>simp [DataW.trod] at hf
 | succ fuel =>
  simp only [DataW.trod,ht,hce,hct,Nat.mul_one] at hf
  rw [if_pos hl] at hf
  ·obtain ⟨xs,hm,hx⟩:=Option.map_eq_some_iff.1 hf
   have hone:∀ i,i<n→∃ u:UInt8,cs[i]? = some (bv u):=by
    intro i hi
    obtain ⟨b,hb,hf⟩:=Lib.mapM_at hm i i (by simp [hi])
    obtain ⟨z,hc,rfl,hw⟩:=DataW.trod_int he hf
    have h1:cs[i]? = some (.int .u8 z):=by
     have:=congrArg (·[0]?) hc
     simpa [List.getElem?_take,List.getElem?_drop] using this
    have hz:0≤z∧z<256:=by
     simp [Lit.wf,IntKind.bits,IntKind.signed,IntKind.min,IntKind.max] at hw
     omega
    refine ⟨UInt8.ofNat z.toNat,?_⟩
    rw [h1]
    unfold bv
    congr 2
    rw [UInt8.toNat_ofNat']
    omega
   have hcs:∃ b:Byt,cs=b.map bv:=by
    refine ⟨cs.map (λv=>match v with | .int _ z=>UInt8.ofNat z.toNat | _=>0),List.ext_getElem? λi=>?_⟩
    by_cases hi:i<n
    ·obtain ⟨u,hu⟩:=hone i hi
     simp [hu,bv]
    ·have:cs.length≤i:=om
     simp [List.getElem?_eq_none this]
   obtain ⟨b,rfl⟩:=hcs
   exact ⟨b,⟨rfl,by simpa using hl⟩,λu hu=>by obtain ⟨w,_,rfl⟩:=List.mem_map.1 hu; rfl,C0 _⟩⟩
theorem G7 {α:Type} {t e:TypeId} {k:Nat} {rep:Rdr→List Value→α→Prop} {sz:α→Nat} (ht:Tryz.prog.underlying t=some (.slice e)) (hce:Tryz.prog.cellsOf e=k) (hk:0<k) (h:Opn e k rep sz):Opn t 1 (Iz k rep) (λl=>l.length+(l.map sz).sum):=⟨λ{H enc W fuel cs x} hl hf=>by
 rcases open_slice ht hf with ⟨rfl,hx⟩ | ⟨a,len,cap,m,n,D,Pl,rfl,_,hlc,hm,hme,hx,hall⟩
 ·exact ⟨[],⟨_,rfl,none,0,0,rfl,rfl,Nat.le_refl _,Nat.zero_le _,λh=>(h J).elim⟩,λu hu=>by rw [List.mem_singleton.1 hu]; rfl,C0 _⟩
 ·simp only [if_true] at hme
  subst hme
  rw [hce] at hall
  obtain ⟨l,l1,l2,l3⟩:=Sj (α:=α) (n:=len) (sz:=sz) (D:=D) (p:=λi y=>∃ cs',W.cells? 0 (a.add (i*k)) k=some cs'∧rep (rdW W) cs' y∧∀ u∈cs',u.oneCell'=true) (λi hi=>by
   obtain ⟨cs',h1,h2⟩:=hall i om
   obtain ⟨y,q1,q2,q3⟩:=h.go (Il h1) h2
   exact ⟨y,⟨cs',h1,q1,q2⟩,q3⟩)
  refine ⟨l,⟨_,rfl,some a,len,m,rfl,l1,hlc,hm,λhne=>?_⟩,λu hu=>by rw [List.mem_singleton.1 hu]; rfl,?_⟩
  ·have hpos:0<l.length:=List.length_pos_iff.2 hne
   obtain ⟨cs0,c1,c2,c3⟩:=l2 0 l[0] (List.getElem?_eq_getElem hpos)
   have c4:=Il c1
   have hcell:=LN c1 0 cs0[0] (List.getElem?_eq_getElem om)
   have e0:(a.add (0*k)).add 0=a:=by simp [Addr.add]
   rw [e0] at hcell
   obtain ⟨b,o,rfl,hlt⟩:=TF hcell
   refine ⟨b,o,rfl,λj y hy=>?_⟩
   obtain ⟨cs',d1,d2,d3⟩:=l2 j y hy
   refine ⟨cs',Il d1,d3,d2,λi v hi=>⟨hlt,?_⟩⟩
   have:=LN d1 i v hi
   rwa [Rj,Rj] at this
  ·subst hx
   simp only [Rows.uptoBulk]
   omega⟩
theorem Va {t e:TypeId} (ht:Tryz.prog.underlying t=some (.slice e)) (he:Tryz.prog.underlying e=some (.int .u8)) (hce:Tryz.prog.cellsOf e=1):Opn t 1 repT (λb=>b.length):=(G7 ht hce Nat.zero_lt_one (Vb he)).as λC cs l ⟨v,h1,A,n,cp,h2,h3,h4,h5,h6⟩=>⟨l,⟨v,h1,A,n,cp,h2,h3,h4,h5,λhne=>by
 obtain ⟨g,o,e,hq⟩:=h6 hne
 refine ⟨g,o,e,λj u hu=>?_⟩
 obtain ⟨cs',_,_,rfl,q⟩:=hq j u hu
 have:=q 0 (bv u) rfl
 rwa [Nat.mul_one,Nat.add_zero] at this⟩,Nat.le_add_right _ _⟩
theorem Lv {α0 α1:Type} {t:TypeId} {f0 f1:Field} {k0 k1:Nat} {r0:Rdr→List Value→α0→Prop} {r1:Rdr→List Value→α1→Prop} {z0:α0→Nat} {z1:α1→Nat} (ht:Tryz.prog.underlying t=some (.struct #[f0,f1])) (c0:Tryz.prog.cellsOf f0.type=k0) (c1:Tryz.prog.cellsOf f1.type=k1) (o0:f0.offset=0) (o1:f1.offset=0+k0)
  (h0:Opn f0.type k0 r0 z0) (h1:Opn f1.type k1 r1 z1):Opn t (k0+(k1)) (λC cs (y:α0×α1)=>∃ a0 a1:List Value,cs=a0++(a1)∧r0 C a0 y.1∧r1 C a1 y.2) (λy=>z0 y.1+z1 y.2):=⟨λ{H enc W fuel cs x} hl hf=>by
 obtain ⟨xs,m,_,hx,_,hn,hg⟩:=DataW.trod_struct ht hf
 match xs,hn with
 | [y0,y1],_ =>
  have g0:DataW.trod enc Tryz.prog W 0 (λ_=>true) true m f0.type ((cs.drop f0.offset).take (Tryz.prog.cellsOf f0.type))=some y0:=hg 0 f0 J
  rw [o0,c0] at g0
  obtain ⟨v0,p0,q0,s0⟩:=h0.go (by rw [List.length_take,List.length_drop]; omega) g0
  have g1:DataW.trod enc Tryz.prog W 0 (λ_=>true) true m f1.type ((cs.drop f1.offset).take (Tryz.prog.cellsOf f1.type))=some y1:=hg 1 f1 J
  rw [o1,c1] at g1
  obtain ⟨v1,p1,q1,s1⟩:=h1.go (by rw [List.length_take,List.length_drop]; omega) g1
  have e0:cs.drop (0)=(cs.drop (0)).take k0++cs.drop (0+k0):=by have q:=(List.take_append_drop k0 (cs.drop (0))).symm; rwa [List.drop_drop] at q
  have e1:cs.drop (0+k0)=(cs.drop (0+k0)).take k1:=(List.take_of_length_le (by rw [List.length_drop]; omega)).symm
  have e:cs=(cs.drop (0)).take k0++((cs.drop (0+k0)).take k1):=(List.drop_zero (l:=cs)).symm.trans (e0.trans (congrArg ((cs.drop (0)).take k0++·) (e1)))
  refine ⟨(v0,v1),⟨_,_,e,p0,p1⟩,λu hu=>by rw [e] at hu; exact (AD q0 q1) u hu,?_⟩
  subst hx
  simp only [Rows.uptoBulk,List.map_cons,List.map_nil,Rows.uptoBulkAll]
  omega⟩
theorem IM {α0 α1 α2:Type} {t:TypeId} {f0 f1 f2:Field} {k0 k1 k2:Nat} {r0:Rdr→List Value→α0→Prop} {r1:Rdr→List Value→α1→Prop} {r2:Rdr→List Value→α2→Prop} {z0:α0→Nat} {z1:α1→Nat} {z2:α2→Nat} (ht:Tryz.prog.underlying t=some (.struct #[f0,f1,f2])) (c0:Tryz.prog.cellsOf f0.type=k0) (c1:Tryz.prog.cellsOf f1.type=k1) (c2:Tryz.prog.cellsOf f2.type=k2) (o0:f0.offset=0) (o1:f1.offset=0+k0) (o2:f2.offset=0+k0+k1)
  (h0:Opn f0.type k0 r0 z0) (h1:Opn f1.type k1 r1 z1) (h2:Opn f2.type k2 r2 z2):Opn t (k0+(k1+(k2))) (λC cs (y:α0×α1×α2)=>∃ a0 a1 a2:List Value,cs=a0++(a1++(a2))∧r0 C a0 y.1∧r1 C a1 y.2.1∧r2 C a2 y.2.2) (λy=>z0 y.1+z1 y.2.1+z2 y.2.2):=⟨λ{H enc W fuel cs x} hl hf=>by
 obtain ⟨xs,m,_,hx,_,hn,hg⟩:=DataW.trod_struct ht hf
 match xs,hn with
 | [y0,y1,y2],_ =>
  have g0:DataW.trod enc Tryz.prog W 0 (λ_=>true) true m f0.type ((cs.drop f0.offset).take (Tryz.prog.cellsOf f0.type))=some y0:=hg 0 f0 J
  rw [o0,c0] at g0
  obtain ⟨v0,p0,q0,s0⟩:=h0.go (by rw [List.length_take,List.length_drop]; omega) g0
  have g1:DataW.trod enc Tryz.prog W 0 (λ_=>true) true m f1.type ((cs.drop f1.offset).take (Tryz.prog.cellsOf f1.type))=some y1:=hg 1 f1 J
  rw [o1,c1] at g1
  obtain ⟨v1,p1,q1,s1⟩:=h1.go (by rw [List.length_take,List.length_drop]; omega) g1
  have g2:DataW.trod enc Tryz.prog W 0 (λ_=>true) true m f2.type ((cs.drop f2.offset).take (Tryz.prog.cellsOf f2.type))=some y2:=hg 2 f2 J
  rw [o2,c2] at g2
  obtain ⟨v2,p2,q2,s2⟩:=h2.go (by rw [List.length_take,List.length_drop]; omega) g2
  have e0:cs.drop (0)=(cs.drop (0)).take k0++cs.drop (0+k0):=by have q:=(List.take_append_drop k0 (cs.drop (0))).symm; rwa [List.drop_drop] at q
  have e1:cs.drop (0+k0)=(cs.drop (0+k0)).take k1++cs.drop (0+k0+k1):=by have q:=(List.take_append_drop k1 (cs.drop (0+k0))).symm; rwa [List.drop_drop] at q
  have e2:cs.drop (0+k0+k1)=(cs.drop (0+k0+k1)).take k2:=(List.take_of_length_le (by rw [List.length_drop]; omega)).symm
  have e:cs=(cs.drop (0)).take k0++((cs.drop (0+k0)).take k1++((cs.drop (0+k0+k1)).take k2)):=(List.drop_zero (l:=cs)).symm.trans (e0.trans (congrArg ((cs.drop (0)).take k0++·) (e1.trans (congrArg ((cs.drop (0+k0)).take k1++·) (e2)))))
  refine ⟨(v0,v1,v2),⟨_,_,_,e,p0,p1,p2⟩,λu hu=>by rw [e] at hu; exact (AD q0 (AD q1 q2)) u hu,?_⟩
  subst hx
  simp only [Rows.uptoBulk,List.map_cons,List.map_nil,Rows.uptoBulkAll]
  omega⟩
theorem UR {α0 α1 α2 α3 α4:Type} {t:TypeId} {f0 f1 f2 f3 f4:Field} {k0 k1 k2 k3 k4:Nat} {r0:Rdr→List Value→α0→Prop} {r1:Rdr→List Value→α1→Prop} {r2:Rdr→List Value→α2→Prop} {r3:Rdr→List Value→α3→Prop} {r4:Rdr→List Value→α4→Prop} {z0:α0→Nat} {z1:α1→Nat} {z2:α2→Nat} {z3:α3→Nat} {z4:α4→Nat} (ht:Tryz.prog.underlying t=some (.struct #[f0,f1,f2,f3,f4])) (c0:Tryz.prog.cellsOf f0.type=k0) (c1:Tryz.prog.cellsOf f1.type=k1) (c2:Tryz.prog.cellsOf f2.type=k2) (c3:Tryz.prog.cellsOf f3.type=k3) (c4:Tryz.prog.cellsOf f4.type=k4) (o0:f0.offset=0) (o1:f1.offset=0+k0) (o2:f2.offset=0+k0+k1) (o3:f3.offset=0+k0+k1+k2) (o4:f4.offset=0+k0+k1+k2+k3)
  (h0:Opn f0.type k0 r0 z0) (h1:Opn f1.type k1 r1 z1) (h2:Opn f2.type k2 r2 z2) (h3:Opn f3.type k3 r3 z3) (h4:Opn f4.type k4 r4 z4):Opn t (k0+(k1+(k2+(k3+(k4))))) (λC cs (y:α0×α1×α2×α3×α4)=>∃ a0 a1 a2 a3 a4:List Value,cs=a0++(a1++(a2++(a3++(a4))))∧r0 C a0 y.1∧r1 C a1 y.2.1∧r2 C a2 y.2.2.1∧r3 C a3 y.2.2.2.1∧r4 C a4 y.2.2.2.2) (λy=>z0 y.1+z1 y.2.1+z2 y.2.2.1+z3 y.2.2.2.1+z4 y.2.2.2.2):=⟨λ{H enc W fuel cs x} hl hf=>by
 obtain ⟨xs,m,_,hx,_,hn,hg⟩:=DataW.trod_struct ht hf
 match xs,hn with
 | [y0,y1,y2,y3,y4],_ =>
  have g0:DataW.trod enc Tryz.prog W 0 (λ_=>true) true m f0.type ((cs.drop f0.offset).take (Tryz.prog.cellsOf f0.type))=some y0:=hg 0 f0 J
  rw [o0,c0] at g0
  obtain ⟨v0,p0,q0,s0⟩:=h0.go (by rw [List.length_take,List.length_drop]; omega) g0
  have g1:DataW.trod enc Tryz.prog W 0 (λ_=>true) true m f1.type ((cs.drop f1.offset).take (Tryz.prog.cellsOf f1.type))=some y1:=hg 1 f1 J
  rw [o1,c1] at g1
  obtain ⟨v1,p1,q1,s1⟩:=h1.go (by rw [List.length_take,List.length_drop]; omega) g1
  have g2:DataW.trod enc Tryz.prog W 0 (λ_=>true) true m f2.type ((cs.drop f2.offset).take (Tryz.prog.cellsOf f2.type))=some y2:=hg 2 f2 J
  rw [o2,c2] at g2
  obtain ⟨v2,p2,q2,s2⟩:=h2.go (by rw [List.length_take,List.length_drop]; omega) g2
  have g3:DataW.trod enc Tryz.prog W 0 (λ_=>true) true m f3.type ((cs.drop f3.offset).take (Tryz.prog.cellsOf f3.type))=some y3:=hg 3 f3 J
  rw [o3,c3] at g3
  obtain ⟨v3,p3,q3,s3⟩:=h3.go (by rw [List.length_take,List.length_drop]; omega) g3
  have g4:DataW.trod enc Tryz.prog W 0 (λ_=>true) true m f4.type ((cs.drop f4.offset).take (Tryz.prog.cellsOf f4.type))=some y4:=hg 4 f4 J
  rw [o4,c4] at g4
  obtain ⟨v4,p4,q4,s4⟩:=h4.go (by rw [List.length_take,List.length_drop]; omega) g4
  have e0:cs.drop (0)=(cs.drop (0)).take k0++cs.drop (0+k0):=by have q:=(List.take_append_drop k0 (cs.drop (0))).symm; rwa [List.drop_drop] at q
  have e1:cs.drop (0+k0)=(cs.drop (0+k0)).take k1++cs.drop (0+k0+k1):=by have q:=(List.take_append_drop k1 (cs.drop (0+k0))).symm; rwa [List.drop_drop] at q
  have e2:cs.drop (0+k0+k1)=(cs.drop (0+k0+k1)).take k2++cs.drop (0+k0+k1+k2):=by have q:=(List.take_append_drop k2 (cs.drop (0+k0+k1))).symm; rwa [List.drop_drop] at q
  have e3:cs.drop (0+k0+k1+k2)=(cs.drop (0+k0+k1+k2)).take k3++cs.drop (0+k0+k1+k2+k3):=by have q:=(List.take_append_drop k3 (cs.drop (0+k0+k1+k2))).symm; rwa [List.drop_drop] at q
  have e4:cs.drop (0+k0+k1+k2+k3)=(cs.drop (0+k0+k1+k2+k3)).take k4:=(List.take_of_length_le (by rw [List.length_drop]; omega)).symm
  have e:cs=(cs.drop (0)).take k0++((cs.drop (0+k0)).take k1++((cs.drop (0+k0+k1)).take k2++((cs.drop (0+k0+k1+k2)).take k3++((cs.drop (0+k0+k1+k2+k3)).take k4)))):=(List.drop_zero (l:=cs)).symm.trans (e0.trans (congrArg ((cs.drop (0)).take k0++·) (e1.trans (congrArg ((cs.drop (0+k0)).take k1++·) (e2.trans (congrArg ((cs.drop (0+k0+k1)).take k2++·) (e3.trans (congrArg ((cs.drop (0+k0+k1+k2)).take k3++·) (e4)))))))))
  refine ⟨(v0,v1,v2,v3,v4),⟨_,_,_,_,_,e,p0,p1,p2,p3,p4⟩,λu hu=>by rw [e] at hu; exact (AD q0 (AD q1 (AD q2 (AD q3 q4)))) u hu,?_⟩
  subst hx
  simp only [Rows.uptoBulk,List.map_cons,List.map_nil,Rows.uptoBulkAll]
  omega⟩
theorem QH {α0 α1 α2 α3 α4 α5:Type} {t:TypeId} {f0 f1 f2 f3 f4 f5:Field} {k0 k1 k2 k3 k4 k5:Nat} {r0:Rdr→List Value→α0→Prop} {r1:Rdr→List Value→α1→Prop} {r2:Rdr→List Value→α2→Prop} {r3:Rdr→List Value→α3→Prop} {r4:Rdr→List Value→α4→Prop} {r5:Rdr→List Value→α5→Prop} {z0:α0→Nat} {z1:α1→Nat} {z2:α2→Nat} {z3:α3→Nat} {z4:α4→Nat} {z5:α5→Nat} (ht:Tryz.prog.underlying t=some (.struct #[f0,f1,f2,f3,f4,f5])) (c0:Tryz.prog.cellsOf f0.type=k0) (c1:Tryz.prog.cellsOf f1.type=k1) (c2:Tryz.prog.cellsOf f2.type=k2) (c3:Tryz.prog.cellsOf f3.type=k3) (c4:Tryz.prog.cellsOf f4.type=k4) (c5:Tryz.prog.cellsOf f5.type=k5) (o0:f0.offset=0) (o1:f1.offset=0+k0) (o2:f2.offset=0+k0+k1) (o3:f3.offset=0+k0+k1+k2) (o4:f4.offset=0+k0+k1+k2+k3) (o5:f5.offset=0+k0+k1+k2+k3+k4)
  (h0:Opn f0.type k0 r0 z0) (h1:Opn f1.type k1 r1 z1) (h2:Opn f2.type k2 r2 z2) (h3:Opn f3.type k3 r3 z3) (h4:Opn f4.type k4 r4 z4) (h5:Opn f5.type k5 r5 z5):Opn t (k0+(k1+(k2+(k3+(k4+(k5)))))) (λC cs (y:α0×α1×α2×α3×α4×α5)=>∃ a0 a1 a2 a3 a4 a5:List Value,cs=a0++(a1++(a2++(a3++(a4++(a5)))))∧r0 C a0 y.1∧r1 C a1 y.2.1∧r2 C a2 y.2.2.1∧r3 C a3 y.2.2.2.1∧r4 C a4 y.2.2.2.2.1∧r5 C a5 y.2.2.2.2.2) (λy=>z0 y.1+z1 y.2.1+z2 y.2.2.1+z3 y.2.2.2.1+z4 y.2.2.2.2.1+z5 y.2.2.2.2.2):=⟨λ{H enc W fuel cs x} hl hf=>by
 obtain ⟨xs,m,_,hx,_,hn,hg⟩:=DataW.trod_struct ht hf
 match xs,hn with
 | [y0,y1,y2,y3,y4,y5],_ =>
  have g0:DataW.trod enc Tryz.prog W 0 (λ_=>true) true m f0.type ((cs.drop f0.offset).take (Tryz.prog.cellsOf f0.type))=some y0:=hg 0 f0 J
  rw [o0,c0] at g0
  obtain ⟨v0,p0,q0,s0⟩:=h0.go (by rw [List.length_take,List.length_drop]; omega) g0
  have g1:DataW.trod enc Tryz.prog W 0 (λ_=>true) true m f1.type ((cs.drop f1.offset).take (Tryz.prog.cellsOf f1.type))=some y1:=hg 1 f1 J
  rw [o1,c1] at g1
  obtain ⟨v1,p1,q1,s1⟩:=h1.go (by rw [List.length_take,List.length_drop]; omega) g1
  have g2:DataW.trod enc Tryz.prog W 0 (λ_=>true) true m f2.type ((cs.drop f2.offset).take (Tryz.prog.cellsOf f2.type))=some y2:=hg 2 f2 J
  rw [o2,c2] at g2
  obtain ⟨v2,p2,q2,s2⟩:=h2.go (by rw [List.length_take,List.length_drop]; omega) g2
  have g3:DataW.trod enc Tryz.prog W 0 (λ_=>true) true m f3.type ((cs.drop f3.offset).take (Tryz.prog.cellsOf f3.type))=some y3:=hg 3 f3 J
  rw [o3,c3] at g3
  obtain ⟨v3,p3,q3,s3⟩:=h3.go (by rw [List.length_take,List.length_drop]; omega) g3
  have g4:DataW.trod enc Tryz.prog W 0 (λ_=>true) true m f4.type ((cs.drop f4.offset).take (Tryz.prog.cellsOf f4.type))=some y4:=hg 4 f4 J
  rw [o4,c4] at g4
  obtain ⟨v4,p4,q4,s4⟩:=h4.go (by rw [List.length_take,List.length_drop]; omega) g4
  have g5:DataW.trod enc Tryz.prog W 0 (λ_=>true) true m f5.type ((cs.drop f5.offset).take (Tryz.prog.cellsOf f5.type))=some y5:=hg 5 f5 J
  rw [o5,c5] at g5
  obtain ⟨v5,p5,q5,s5⟩:=h5.go (by rw [List.length_take,List.length_drop]; omega) g5
  have e0:cs.drop (0)=(cs.drop (0)).take k0++cs.drop (0+k0):=by have q:=(List.take_append_drop k0 (cs.drop (0))).symm; rwa [List.drop_drop] at q
  have e1:cs.drop (0+k0)=(cs.drop (0+k0)).take k1++cs.drop (0+k0+k1):=by have q:=(List.take_append_drop k1 (cs.drop (0+k0))).symm; rwa [List.drop_drop] at q
  have e2:cs.drop (0+k0+k1)=(cs.drop (0+k0+k1)).take k2++cs.drop (0+k0+k1+k2):=by have q:=(List.take_append_drop k2 (cs.drop (0+k0+k1))).symm; rwa [List.drop_drop] at q
  have e3:cs.drop (0+k0+k1+k2)=(cs.drop (0+k0+k1+k2)).take k3++cs.drop (0+k0+k1+k2+k3):=by have q:=(List.take_append_drop k3 (cs.drop (0+k0+k1+k2))).symm; rwa [List.drop_drop] at q
  have e4:cs.drop (0+k0+k1+k2+k3)=(cs.drop (0+k0+k1+k2+k3)).take k4++cs.drop (0+k0+k1+k2+k3+k4):=by have q:=(List.take_append_drop k4 (cs.drop (0+k0+k1+k2+k3))).symm; rwa [List.drop_drop] at q
  have e5:cs.drop (0+k0+k1+k2+k3+k4)=(cs.drop (0+k0+k1+k2+k3+k4)).take k5:=(List.take_of_length_le (by rw [List.length_drop]; omega)).symm
  have e:cs=(cs.drop (0)).take k0++((cs.drop (0+k0)).take k1++((cs.drop (0+k0+k1)).take k2++((cs.drop (0+k0+k1+k2)).take k3++((cs.drop (0+k0+k1+k2+k3)).take k4++((cs.drop (0+k0+k1+k2+k3+k4)).take k5))))):=(List.drop_zero (l:=cs)).symm.trans (e0.trans (congrArg ((cs.drop (0)).take k0++·) (e1.trans (congrArg ((cs.drop (0+k0)).take k1++·) (e2.trans (congrArg ((cs.drop (0+k0+k1)).take k2++·) (e3.trans (congrArg ((cs.drop (0+k0+k1+k2)).take k3++·) (e4.trans (congrArg ((cs.drop (0+k0+k1+k2+k3)).take k4++·) (e5)))))))))))
  refine ⟨(v0,v1,v2,v3,v4,v5),⟨_,_,_,_,_,_,e,p0,p1,p2,p3,p4,p5⟩,λu hu=>by rw [e] at hu; exact (AD q0 (AD q1 (AD q2 (AD q3 (AD q4 q5))))) u hu,?_⟩
  subst hx
  simp only [Rows.uptoBulk,List.map_cons,List.map_nil,Rows.uptoBulkAll]
  omega⟩
theorem UQ {α0 α1 α2 α3 α4 α5 α6:Type} {t:TypeId} {f0 f1 f2 f3 f4 f5 f6:Field} {k0 k1 k2 k3 k4 k5 k6:Nat} {r0:Rdr→List Value→α0→Prop} {r1:Rdr→List Value→α1→Prop} {r2:Rdr→List Value→α2→Prop} {r3:Rdr→List Value→α3→Prop} {r4:Rdr→List Value→α4→Prop} {r5:Rdr→List Value→α5→Prop} {r6:Rdr→List Value→α6→Prop} {z0:α0→Nat} {z1:α1→Nat} {z2:α2→Nat} {z3:α3→Nat} {z4:α4→Nat} {z5:α5→Nat} {z6:α6→Nat} (ht:Tryz.prog.underlying t=some (.struct #[f0,f1,f2,f3,f4,f5,f6])) (c0:Tryz.prog.cellsOf f0.type=k0) (c1:Tryz.prog.cellsOf f1.type=k1) (c2:Tryz.prog.cellsOf f2.type=k2) (c3:Tryz.prog.cellsOf f3.type=k3) (c4:Tryz.prog.cellsOf f4.type=k4) (c5:Tryz.prog.cellsOf f5.type=k5) (c6:Tryz.prog.cellsOf f6.type=k6) (o0:f0.offset=0) (o1:f1.offset=0+k0) (o2:f2.offset=0+k0+k1) (o3:f3.offset=0+k0+k1+k2) (o4:f4.offset=0+k0+k1+k2+k3) (o5:f5.offset=0+k0+k1+k2+k3+k4) (o6:f6.offset=0+k0+k1+k2+k3+k4+k5)
  (h0:Opn f0.type k0 r0 z0) (h1:Opn f1.type k1 r1 z1) (h2:Opn f2.type k2 r2 z2) (h3:Opn f3.type k3 r3 z3) (h4:Opn f4.type k4 r4 z4) (h5:Opn f5.type k5 r5 z5) (h6:Opn f6.type k6 r6 z6):Opn t (k0+(k1+(k2+(k3+(k4+(k5+(k6))))))) (λC cs (y:α0×α1×α2×α3×α4×α5×α6)=>∃ a0 a1 a2 a3 a4 a5 a6:List Value,cs=a0++(a1++(a2++(a3++(a4++(a5++(a6))))))∧r0 C a0 y.1∧r1 C a1 y.2.1∧r2 C a2 y.2.2.1∧r3 C a3 y.2.2.2.1∧r4 C a4 y.2.2.2.2.1∧r5 C a5 y.2.2.2.2.2.1∧r6 C a6 y.2.2.2.2.2.2) (λy=>z0 y.1+z1 y.2.1+z2 y.2.2.1+z3 y.2.2.2.1+z4 y.2.2.2.2.1+z5 y.2.2.2.2.2.1+z6 y.2.2.2.2.2.2):=⟨λ{H enc W fuel cs x} hl hf=>by
 obtain ⟨xs,m,_,hx,_,hn,hg⟩:=DataW.trod_struct ht hf
 match xs,hn with
 | [y0,y1,y2,y3,y4,y5,y6],_ =>
  have g0:DataW.trod enc Tryz.prog W 0 (λ_=>true) true m f0.type ((cs.drop f0.offset).take (Tryz.prog.cellsOf f0.type))=some y0:=hg 0 f0 J
  rw [o0,c0] at g0
  obtain ⟨v0,p0,q0,s0⟩:=h0.go (by rw [List.length_take,List.length_drop]; omega) g0
  have g1:DataW.trod enc Tryz.prog W 0 (λ_=>true) true m f1.type ((cs.drop f1.offset).take (Tryz.prog.cellsOf f1.type))=some y1:=hg 1 f1 J
  rw [o1,c1] at g1
  obtain ⟨v1,p1,q1,s1⟩:=h1.go (by rw [List.length_take,List.length_drop]; omega) g1
  have g2:DataW.trod enc Tryz.prog W 0 (λ_=>true) true m f2.type ((cs.drop f2.offset).take (Tryz.prog.cellsOf f2.type))=some y2:=hg 2 f2 J
  rw [o2,c2] at g2
  obtain ⟨v2,p2,q2,s2⟩:=h2.go (by rw [List.length_take,List.length_drop]; omega) g2
  have g3:DataW.trod enc Tryz.prog W 0 (λ_=>true) true m f3.type ((cs.drop f3.offset).take (Tryz.prog.cellsOf f3.type))=some y3:=hg 3 f3 J
  rw [o3,c3] at g3
  obtain ⟨v3,p3,q3,s3⟩:=h3.go (by rw [List.length_take,List.length_drop]; omega) g3
  have g4:DataW.trod enc Tryz.prog W 0 (λ_=>true) true m f4.type ((cs.drop f4.offset).take (Tryz.prog.cellsOf f4.type))=some y4:=hg 4 f4 J
  rw [o4,c4] at g4
  obtain ⟨v4,p4,q4,s4⟩:=h4.go (by rw [List.length_take,List.length_drop]; omega) g4
  have g5:DataW.trod enc Tryz.prog W 0 (λ_=>true) true m f5.type ((cs.drop f5.offset).take (Tryz.prog.cellsOf f5.type))=some y5:=hg 5 f5 J
  rw [o5,c5] at g5
  obtain ⟨v5,p5,q5,s5⟩:=h5.go (by rw [List.length_take,List.length_drop]; omega) g5
  have g6:DataW.trod enc Tryz.prog W 0 (λ_=>true) true m f6.type ((cs.drop f6.offset).take (Tryz.prog.cellsOf f6.type))=some y6:=hg 6 f6 J
  rw [o6,c6] at g6
  obtain ⟨v6,p6,q6,s6⟩:=h6.go (by rw [List.length_take,List.length_drop]; omega) g6
  have e0:cs.drop (0)=(cs.drop (0)).take k0++cs.drop (0+k0):=by have q:=(List.take_append_drop k0 (cs.drop (0))).symm; rwa [List.drop_drop] at q
  have e1:cs.drop (0+k0)=(cs.drop (0+k0)).take k1++cs.drop (0+k0+k1):=by have q:=(List.take_append_drop k1 (cs.drop (0+k0))).symm; rwa [List.drop_drop] at q
  have e2:cs.drop (0+k0+k1)=(cs.drop (0+k0+k1)).take k2++cs.drop (0+k0+k1+k2):=by have q:=(List.take_append_drop k2 (cs.drop (0+k0+k1))).symm; rwa [List.drop_drop] at q
  have e3:cs.drop (0+k0+k1+k2)=(cs.drop (0+k0+k1+k2)).take k3++cs.drop (0+k0+k1+k2+k3):=by have q:=(List.take_append_drop k3 (cs.drop (0+k0+k1+k2))).symm; rwa [List.drop_drop] at q
  have e4:cs.drop (0+k0+k1+k2+k3)=(cs.drop (0+k0+k1+k2+k3)).take k4++cs.drop (0+k0+k1+k2+k3+k4):=by have q:=(List.take_append_drop k4 (cs.drop (0+k0+k1+k2+k3))).symm; rwa [List.drop_drop] at q
  have e5:cs.drop (0+k0+k1+k2+k3+k4)=(cs.drop (0+k0+k1+k2+k3+k4)).take k5++cs.drop (0+k0+k1+k2+k3+k4+k5):=by have q:=(List.take_append_drop k5 (cs.drop (0+k0+k1+k2+k3+k4))).symm; rwa [List.drop_drop] at q
  have e6:cs.drop (0+k0+k1+k2+k3+k4+k5)=(cs.drop (0+k0+k1+k2+k3+k4+k5)).take k6:=(List.take_of_length_le (by rw [List.length_drop]; omega)).symm
  have e:cs=(cs.drop (0)).take k0++((cs.drop (0+k0)).take k1++((cs.drop (0+k0+k1)).take k2++((cs.drop (0+k0+k1+k2)).take k3++((cs.drop (0+k0+k1+k2+k3)).take k4++((cs.drop (0+k0+k1+k2+k3+k4)).take k5++((cs.drop (0+k0+k1+k2+k3+k4+k5)).take k6)))))):=(List.drop_zero (l:=cs)).symm.trans (e0.trans (congrArg ((cs.drop (0)).take k0++·) (e1.trans (congrArg ((cs.drop (0+k0)).take k1++·) (e2.trans (congrArg ((cs.drop (0+k0+k1)).take k2++·) (e3.trans (congrArg ((cs.drop (0+k0+k1+k2)).take k3++·) (e4.trans (congrArg ((cs.drop (0+k0+k1+k2+k3)).take k4++·) (e5.trans (congrArg ((cs.drop (0+k0+k1+k2+k3+k4)).take k5++·) (e6)))))))))))))
  refine ⟨(v0,v1,v2,v3,v4,v5,v6),⟨_,_,_,_,_,_,_,e,p0,p1,p2,p3,p4,p5,p6⟩,λu hu=>by rw [e] at hu; exact (AD q0 (AD q1 (AD q2 (AD q3 (AD q4 (AD q5 q6)))))) u hu,?_⟩
  subst hx
  simp only [Rows.uptoBulk,List.map_cons,List.map_nil,Rows.uptoBulkAll]
  omega⟩
theorem UP {α0 α1 α2 α3 α4 α5 α6 α7:Type} {t:TypeId} {f0 f1 f2 f3 f4 f5 f6 f7:Field} {k0 k1 k2 k3 k4 k5 k6 k7:Nat} {r0:Rdr→List Value→α0→Prop} {r1:Rdr→List Value→α1→Prop} {r2:Rdr→List Value→α2→Prop} {r3:Rdr→List Value→α3→Prop} {r4:Rdr→List Value→α4→Prop} {r5:Rdr→List Value→α5→Prop} {r6:Rdr→List Value→α6→Prop} {r7:Rdr→List Value→α7→Prop} {z0:α0→Nat} {z1:α1→Nat} {z2:α2→Nat} {z3:α3→Nat} {z4:α4→Nat} {z5:α5→Nat} {z6:α6→Nat} {z7:α7→Nat} (ht:Tryz.prog.underlying t=some (.struct #[f0,f1,f2,f3,f4,f5,f6,f7])) (c0:Tryz.prog.cellsOf f0.type=k0) (c1:Tryz.prog.cellsOf f1.type=k1) (c2:Tryz.prog.cellsOf f2.type=k2) (c3:Tryz.prog.cellsOf f3.type=k3) (c4:Tryz.prog.cellsOf f4.type=k4) (c5:Tryz.prog.cellsOf f5.type=k5) (c6:Tryz.prog.cellsOf f6.type=k6) (c7:Tryz.prog.cellsOf f7.type=k7) (o0:f0.offset=0) (o1:f1.offset=0+k0) (o2:f2.offset=0+k0+k1) (o3:f3.offset=0+k0+k1+k2) (o4:f4.offset=0+k0+k1+k2+k3) (o5:f5.offset=0+k0+k1+k2+k3+k4) (o6:f6.offset=0+k0+k1+k2+k3+k4+k5) (o7:f7.offset=0+k0+k1+k2+k3+k4+k5+k6)
  (h0:Opn f0.type k0 r0 z0) (h1:Opn f1.type k1 r1 z1) (h2:Opn f2.type k2 r2 z2) (h3:Opn f3.type k3 r3 z3) (h4:Opn f4.type k4 r4 z4) (h5:Opn f5.type k5 r5 z5) (h6:Opn f6.type k6 r6 z6) (h7:Opn f7.type k7 r7 z7):Opn t (k0+(k1+(k2+(k3+(k4+(k5+(k6+(k7)))))))) (λC cs (y:α0×α1×α2×α3×α4×α5×α6×α7)=>∃ a0 a1 a2 a3 a4 a5 a6 a7:List Value,cs=a0++(a1++(a2++(a3++(a4++(a5++(a6++(a7)))))))∧r0 C a0 y.1∧r1 C a1 y.2.1∧r2 C a2 y.2.2.1∧r3 C a3 y.2.2.2.1∧r4 C a4 y.2.2.2.2.1∧r5 C a5 y.2.2.2.2.2.1∧r6 C a6 y.2.2.2.2.2.2.1∧r7 C a7 y.2.2.2.2.2.2.2) (λy=>z0 y.1+z1 y.2.1+z2 y.2.2.1+z3 y.2.2.2.1+z4 y.2.2.2.2.1+z5 y.2.2.2.2.2.1+z6 y.2.2.2.2.2.2.1+z7 y.2.2.2.2.2.2.2):=⟨λ{H enc W fuel cs x} hl hf=>by
 obtain ⟨xs,m,_,hx,_,hn,hg⟩:=DataW.trod_struct ht hf
 match xs,hn with
 | [y0,y1,y2,y3,y4,y5,y6,y7],_ =>
  have g0:DataW.trod enc Tryz.prog W 0 (λ_=>true) true m f0.type ((cs.drop f0.offset).take (Tryz.prog.cellsOf f0.type))=some y0:=hg 0 f0 J
  rw [o0,c0] at g0
  obtain ⟨v0,p0,q0,s0⟩:=h0.go (by rw [List.length_take,List.length_drop]; omega) g0
  have g1:DataW.trod enc Tryz.prog W 0 (λ_=>true) true m f1.type ((cs.drop f1.offset).take (Tryz.prog.cellsOf f1.type))=some y1:=hg 1 f1 J
  rw [o1,c1] at g1
  obtain ⟨v1,p1,q1,s1⟩:=h1.go (by rw [List.length_take,List.length_drop]; omega) g1
  have g2:DataW.trod enc Tryz.prog W 0 (λ_=>true) true m f2.type ((cs.drop f2.offset).take (Tryz.prog.cellsOf f2.type))=some y2:=hg 2 f2 J
  rw [o2,c2] at g2
  obtain ⟨v2,p2,q2,s2⟩:=h2.go (by rw [List.length_take,List.length_drop]; omega) g2
  have g3:DataW.trod enc Tryz.prog W 0 (λ_=>true) true m f3.type ((cs.drop f3.offset).take (Tryz.prog.cellsOf f3.type))=some y3:=hg 3 f3 J
  rw [o3,c3] at g3
  obtain ⟨v3,p3,q3,s3⟩:=h3.go (by rw [List.length_take,List.length_drop]; omega) g3
  have g4:DataW.trod enc Tryz.prog W 0 (λ_=>true) true m f4.type ((cs.drop f4.offset).take (Tryz.prog.cellsOf f4.type))=some y4:=hg 4 f4 J
  rw [o4,c4] at g4
  obtain ⟨v4,p4,q4,s4⟩:=h4.go (by rw [List.length_take,List.length_drop]; omega) g4
  have g5:DataW.trod enc Tryz.prog W 0 (λ_=>true) true m f5.type ((cs.drop f5.offset).take (Tryz.prog.cellsOf f5.type))=some y5:=hg 5 f5 J
  rw [o5,c5] at g5
  obtain ⟨v5,p5,q5,s5⟩:=h5.go (by rw [List.length_take,List.length_drop]; omega) g5
  have g6:DataW.trod enc Tryz.prog W 0 (λ_=>true) true m f6.type ((cs.drop f6.offset).take (Tryz.prog.cellsOf f6.type))=some y6:=hg 6 f6 J
  rw [o6,c6] at g6
  obtain ⟨v6,p6,q6,s6⟩:=h6.go (by rw [List.length_take,List.length_drop]; omega) g6
  have g7:DataW.trod enc Tryz.prog W 0 (λ_=>true) true m f7.type ((cs.drop f7.offset).take (Tryz.prog.cellsOf f7.type))=some y7:=hg 7 f7 J
  rw [o7,c7] at g7
  obtain ⟨v7,p7,q7,s7⟩:=h7.go (by rw [List.length_take,List.length_drop]; omega) g7
  have e0:cs.drop (0)=(cs.drop (0)).take k0++cs.drop (0+k0):=by have q:=(List.take_append_drop k0 (cs.drop (0))).symm; rwa [List.drop_drop] at q
  have e1:cs.drop (0+k0)=(cs.drop (0+k0)).take k1++cs.drop (0+k0+k1):=by have q:=(List.take_append_drop k1 (cs.drop (0+k0))).symm; rwa [List.drop_drop] at q
  have e2:cs.drop (0+k0+k1)=(cs.drop (0+k0+k1)).take k2++cs.drop (0+k0+k1+k2):=by have q:=(List.take_append_drop k2 (cs.drop (0+k0+k1))).symm; rwa [List.drop_drop] at q
  have e3:cs.drop (0+k0+k1+k2)=(cs.drop (0+k0+k1+k2)).take k3++cs.drop (0+k0+k1+k2+k3):=by have q:=(List.take_append_drop k3 (cs.drop (0+k0+k1+k2))).symm; rwa [List.drop_drop] at q
  have e4:cs.drop (0+k0+k1+k2+k3)=(cs.drop (0+k0+k1+k2+k3)).take k4++cs.drop (0+k0+k1+k2+k3+k4):=by have q:=(List.take_append_drop k4 (cs.drop (0+k0+k1+k2+k3))).symm; rwa [List.drop_drop] at q
  have e5:cs.drop (0+k0+k1+k2+k3+k4)=(cs.drop (0+k0+k1+k2+k3+k4)).take k5++cs.drop (0+k0+k1+k2+k3+k4+k5):=by have q:=(List.take_append_drop k5 (cs.drop (0+k0+k1+k2+k3+k4))).symm; rwa [List.drop_drop] at q
  have e6:cs.drop (0+k0+k1+k2+k3+k4+k5)=(cs.drop (0+k0+k1+k2+k3+k4+k5)).take k6++cs.drop (0+k0+k1+k2+k3+k4+k5+k6):=by have q:=(List.take_append_drop k6 (cs.drop (0+k0+k1+k2+k3+k4+k5))).symm; rwa [List.drop_drop] at q
  have e7:cs.drop (0+k0+k1+k2+k3+k4+k5+k6)=(cs.drop (0+k0+k1+k2+k3+k4+k5+k6)).take k7:=(List.take_of_length_le (by rw [List.length_drop]; omega)).symm
  have e:cs=(cs.drop (0)).take k0++((cs.drop (0+k0)).take k1++((cs.drop (0+k0+k1)).take k2++((cs.drop (0+k0+k1+k2)).take k3++((cs.drop (0+k0+k1+k2+k3)).take k4++((cs.drop (0+k0+k1+k2+k3+k4)).take k5++((cs.drop (0+k0+k1+k2+k3+k4+k5)).take k6++((cs.drop (0+k0+k1+k2+k3+k4+k5+k6)).take k7))))))):=(List.drop_zero (l:=cs)).symm.trans (e0.trans (congrArg ((cs.drop (0)).take k0++·) (e1.trans (congrArg ((cs.drop (0+k0)).take k1++·) (e2.trans (congrArg ((cs.drop (0+k0+k1)).take k2++·) (e3.trans (congrArg ((cs.drop (0+k0+k1+k2)).take k3++·) (e4.trans (congrArg ((cs.drop (0+k0+k1+k2+k3)).take k4++·) (e5.trans (congrArg ((cs.drop (0+k0+k1+k2+k3+k4)).take k5++·) (e6.trans (congrArg ((cs.drop (0+k0+k1+k2+k3+k4+k5)).take k6++·) (e7)))))))))))))))
  refine ⟨(v0,v1,v2,v3,v4,v5,v6,v7),⟨_,_,_,_,_,_,_,_,e,p0,p1,p2,p3,p4,p5,p6,p7⟩,λu hu=>by rw [e] at hu; exact (AD q0 (AD q1 (AD q2 (AD q3 (AD q4 (AD q5 (AD q6 q7))))))) u hu,?_⟩
  subst hx
  simp only [Rows.uptoBulk,List.map_cons,List.map_nil,Rows.uptoBulkAll]
  omega⟩
theorem arg_s {α:Type} {t:TypeId} {k:Nat} {rep:Rdr→List Value→α→Prop} {sz:α→Nat} (h:Opn t k rep sz) {fs:Array Field} (ht:Tryz.prog.underlying t=some (.struct fs)) (hk:Tryz.prog.cellsOf t=k) {H:Type} {enc:TypeId×Value→H} {W:World} {r:Reach} {b0:Nat} {v:Value} {d:DataW H} {ps:List MemPlace} (hval:Value.okWide Tryz.prog W r b0 t v) (hT:DataW.Trod enc Tryz.prog W 0 (λ_=>true) true t v d ps) :
  ∃ cs y,v=.agg cs.toArray∧cs.length=k∧rep (rdW W) cs y∧sz y<Rows.uptoBulk d:=by
 obtain ⟨⟨cs⟩,rfl,hsz⟩:=okWide_struct ht hval
 rw [hk] at hsz
 obtain ⟨fuel,hf⟩:=hT
 obtain ⟨y,h1,h2,h3⟩:=h.go (by simpa using hsz) (show DataW.trod enc Tryz.prog W 0 (λ_=>true) true fuel t cs=some (d,ps) by simpa [Value.cells] using hf)
 exact ⟨cs,y,rfl,by simpa using hsz,h1,h3⟩
theorem arg_v {α:Type} {t e:TypeId} {rep:Rdr→List Value→α→Prop} {sz:α→Nat} (h:Opn t 1 rep sz) (ht:Tryz.prog.underlying t=some (.slice e)) {H:Type} {enc:TypeId×Value→H} {W:World} {r:Reach} {b0:Nat} {v:Value} {d:DataW H} {ps:List MemPlace} (hval:Value.okWide Tryz.prog W r b0 t v) (hT:DataW.Trod enc Tryz.prog W 0 (λ_=>true) true t v d ps) :
  ∃ y,rep (rdW W) [v] y∧sz y<Rows.uptoBulk d:=by
 obtain ⟨A,n,c,rfl⟩:=okWide_slice ht hval
 obtain ⟨fuel,hf⟩:=hT
 obtain ⟨y,h1,_,h3⟩:=h.go J (show DataW.trod enc Tryz.prog W 0 (λ_=>true) true fuel t [.slice A n c]=some (d,ps) by simpa [Value.cells] using hf)
 exact ⟨y,h1,h3⟩
theorem opn_raw:Opn 27 1 repT (λb=>b.length):=Va Aw uy5 kZ
theorem repT.one {C:Rdr} {v:Value} {b:Byt} (h:repT C [v] b):BytR C v b:=by
 obtain ⟨u,e,h⟩:=h
 injection e with e
 subst e
 exact h
theorem Es:Opn 37 32 (UA 32) (λ_=>0):=QJ Dd uy5 kZ kZ
theorem GD:Opn 22 1 VH (λ_=>0):=VZ CD
end Wr
end
section
namespace Wr
open Go.RowKit Sy
theorem Ji {w:World} {A:Option Addr} {n cp:Nat} {b:Byt} (h:BytR (rdW w) (.slice A n cp) b):(convert 27 9 (.slice A n cp)).run Tryz.prog w=.ok (.string ⟨b.toArray⟩) w:=by
 obtain ⟨A',n',cp',e,h2,h3,h4,h5⟩:=h
 injection e with e1 e2 e3
 subst e1 e2 e3
 subst h2
 rcases b with _ | ⟨x,m⟩
 ·cases A with
  | none =>
   rw [show ([]:List UInt8).length=0 from rfl,run_convert_bytes_string w 27 9 5 none 0 cp Aw uy5 uy9]
   rfl
  | some a=>exact run_convert_bytes_back w 27 9 5 a cp [] Aw uy5 uy9 (λj hj=>absurd hj (Nat.not_lt_zero _))
 ·obtain ⟨g,o,rfl,hq⟩:=h5 (by simp)
  refine run_convert_bytes_back w 27 9 5 _ cp _ Aw uy5 uy9 (λj hj=>?_)
  rw [CC]
  exact (hq j _ (List.getElem?_eq_getElem hj)).2
theorem VF {w0:Base} {F:AJ} {L:AA} {o:Oper} {v:Value} {b:Byt} (x:Operand) (ho:o.op=.convert 27 9 x) (hx:evF F x=v) (hv:∀ w,St w0 w L→BytR (rdW w) v b):Quiet Tryz.prog w0 F L o (.string ⟨b.toArray⟩):=λw hw=>by
 have q:=hv w hw
 obtain ⟨A,n,cp,rfl,_⟩:=hv w hw
 unfold Cr execOp
 simp only [ho,hx,Sem.run_bind,Ji q,Result.andThen_ok,Sem.run_pure]
 exact ⟨trivial,Gr.refl _⟩
theorem GR (w:World) (F:AJ) (o:Oper) (x y:Operand) (a b:Ak) {yt:TypeId} (ho:o.op=.binOp .eql 9 x y yt) (hx:evF F x=.string ⟨a.toArray⟩) (hy:evF F y=.string ⟨b.toArray⟩):(execOp (evF F) o).run Tryz.prog w=.ok (.value (.bool (decide (a=b)))) w:=by
 have h1:(eqGuard .eql 9 x y (.string ⟨a.toArray⟩) (.string ⟨b.toArray⟩)).run Tryz.prog w=.ok () w:=by go_simp
 have h2:(binOp .eql 9 (.string ⟨a.toArray⟩) (.string ⟨b.toArray⟩)).run Tryz.prog w=.ok (.bool (decide (a=b))) w:=by
  by_cases e:a=b <;> simp [go_sem,ByteArray.toList_eq,e]
 unfold execOp
 simp only [ho,hx,hy,Sem.run_bind,h1,h2,Result.andThen_ok,Sem.run_pure]
theorem KW (w:World) (v u:Value) (a b:Byt) (hv:BytR (rdW w) v a) (hu:BytR (rdW w) u b):AL 12 #[v,u] w (Ai w (.bool (decide (a=b)))):=by
 refine Sy.enter (args:=[v,u]) Tryz.func12 J kL<|sC<|sP (.bool false)<|sA<|sp J<|sS (.string ⟨a.toArray⟩) (VF _ J J (λw' hw=>hv.at hw))<|sp J<|sS (.string ⟨b.toArray⟩) (VF _ J J (λw' hw=>hu.at hw))<|sS (.bool (decide (a=b))) (Quiet.pure (λw=>GR w _ _ _ _ a b J J J))<|sp J<|sG<|Sy.ret ?_
 exact rV (.bool (decide (a=b))) J
def erE (ok:Bool):Int:=if ok then 0 else 120
def byE (ok:Bool) (e:Byt):Byt:=if ok then e else []
theorem BytE.uni {ok:Bool} {e:Byt} {v:Value} {M:AA} (h:BytE ok e v M):∃ u,v=.tuple #[u,.int .i64 (erE ok)]∧BytR (rdB M) u (byE ok e):=by
 rcases h with ⟨rfl,u,rfl,h⟩ | ⟨rfl,rfl,rfl⟩
 ·exact ⟨u,rfl,h.byt⟩
 ·exact ⟨_,rfl,BytR.nil _⟩
theorem RdE.uni {α:Type} {k:Nat} {zc:List Value} {rep:Rdr→List Value→α→Prop} {o:Option α} {u:Value} {M:AA} (z:α) (hz:rep (rdB []) zc z) (hk:zc.length=k) (h:RdE k zc rep o u M):∃ cs,u=.tuple #[.agg cs.toArray,.int .i64 (erE o.isSome)]∧cs.length=k∧rep (rdB M) cs (o.getD z):=by
 rcases h with ⟨x,cs,rfl,rfl,h1,h2⟩ | ⟨rfl,rfl,rfl⟩
 ·exact ⟨cs,rfl,h1,h2⟩
 ·exact ⟨zc,rfl,hk,hz⟩
theorem CA {w0:Base} {w:World} {L R:AA} (hw:St w0 w L) (hR:∀ b∈R,b∈L):Le (rdB R) (rdW w):=λg o v h=>Ad hw hR g o v (.inr h)
def CQ (z:Int):UInt8:=UInt8.ofNat (z%256).toNat
def okO (z:Int):Bool:=decide (0≤z) && decide (z≤255)
theorem Nl (w:World) (F:AJ) (o:Oper) (x:Operand) (z:Int) (ho:o.op=.convert 3 5 x) (hx:evF F x=.int .i64 z):(execOp (evF F) o).run Tryz.prog w=.ok (.value (bv (CQ z))) w:=by
 have e:(CQ z).toNat=(z%256).toNat:=by unfold CQ; rw [UInt8.toNat_ofNat']; omega
 have h:(convert 3 5 (.int .i64 z)).run Tryz.prog w=.ok (bv (CQ z)) w:=by
  unfold bv
  rw [e]
  go_simp
  show z%256=max (z%256) 0
  omega
 unfold execOp
 simp only [ho,hx,Sem.run_bind,h,Result.andThen_ok,Sem.run_pure]
theorem EX (w0:Base) (gc gw gx f:Nat) (bad:Bool) (s:Slc) (R:AA) (b:Byt) (z:Int) (hc:rdC w0 R gx f (.int .i64 z)) (hb:BS s b) (hl:b.length+1≤70368744177000) (w:World) (hw:St w0 w (CWS gc gw bad s R)) :
  AL 91 #[ptr gc,pT gx f] w (AQ w0 (WrC gc gw R (okO z) [CQ z] 1 bad b)):=by
 refine Sy.enterT (args:=[ptr gc,pT gx f]) hw Tryz.func91 J kL<|sC<|sp J<|sS (.bool false) (qg (λw hw=>DD w0.inn gc _ _ (List.mem_cons_self ..) w hw))<|sG<|sU<|sC ?_
 obtain ⟨ok,hok⟩:=xE (okO z)
 obtain ⟨b1,hb1⟩:=xE (decide (0≤z))
 obtain ⟨b2,hb2⟩:=xE (decide (z≤255))
 have e:ok=(b1 && b2):=by rw [hok,hb1,hb2]; rfl
 rw [← hok]
 refine sp J<|sp J<|sp J<|sS (.int .i64 z) (AK (R:=R) hc Ba J uy3)<|sS (.bool b1) (Quiet.pure (AE .geq _ _ _ .i64 _ _ _ J J J (Dy _ _ _ _ _ (by rw [hb1]))))<|sp J ?_
 cases b1
 case' false =>
  obtain rfl:ok=false:=e
  refine sN<|sN<|sN<|sN<|sP (.bool false)<|Sy.callT (λw hw=>B2 w0.inn gc gw bad false s R w hw) (λu M hM=>?_)
 case' true =>
  obtain rfl:ok=b2:=e
  refine sp J<|sp J<|sS (.int .i64 z) (AK (R:=R) hc Ba J uy3)<|sS (.bool ok) (Quiet.pure (AE .leq _ _ _ .i64 _ _ _ J J J (Eb _ _ _ _ _ (by rw [hb2]))))<|sP (.bool ok)<|Sy.callT (λw hw=>B2 w0.inn gc gw bad ok s R w hw) (λu M hM=>?_)
 all_goals
  subst hM
  refine Sy.nil<|Sy.then_<|Sy.regionD (λj=>j == 8) kR<|sa 0 J J<|sa 1 J J<|sb 2 J (pT gc 0)<|sD 3 J (ptr gw) (qc 0 0 J J Fa)<|sa 4 J J<|sa 5 J J<|se 6 [7,8] rfl (.int .i64 z) (AK (R:=R) hc Ba J uy3)<|sv 7 J (bv (CQ z)) (λw=>Nl w _ _ _ z J J)<|Sy.soleD 8 J (λQ2 hq2=>?_)
 ·refine Sy.callT (λw hw=>EN w0.inn gw s ((gc,134,#[ptr gw,.pointer none,.bool (bad || !ok)])::R) b (CQ z) hb om w (hw.perm permCW)) (λu M hM=>?_)
  obtain ⟨s1,hs1,rfl⟩:=hM
  refine Sy.permS permCW.symm<|hq2 _ _<|sE ?_
  exact Sy.retT0 J (CWS gc gw (bad || !ok) s1 R) (λ_ h=>h) (λ_=>⟨s1,bad || !ok,b++[CQ z],⟨rfl,λ_=>rfl,by rw [List.length_append]; exact Nat.le_refl _⟩,hs1,rfl⟩)
 ·refine Sy.callT (λw hw=>EN w0.inn gw s ((gc,134,#[ptr gw,.pointer none,.bool (bad || !false)])::R) b (CQ z) hb om w (hw.perm permCW)) (λu M hM=>?_)
  obtain ⟨s1,hs1,rfl⟩:=hM
  refine Sy.permS permCW.symm<|hq2 _ _<|sE ?_
  exact Sy.retT0 J (CWS gc gw (bad || !false) s1 R) (λ_ h=>h) (λ_=>⟨s1,bad || !false,b++[CQ z],⟨rfl,λh=>(by cases bad <;> cases h),by rw [List.length_append]; exact Nat.le_refl _⟩,hs1,rfl⟩)
def zOut:List Value:=(.int .i64 0::.bool false::(List.replicate 32 (.int .u8 0)++(List.replicate 8 (.int .u64 0)++(.bool false::.bool false::(List.replicate 9 (.int .u64 0)++(.bool false::List.replicate 4 (.slice none 0 0)))))))
def Pm (_:Rdr) (cs:List Value) (_:Unit):Prop:=cs=zOut
theorem Uc:BN Pm:=λ_ h=>h
theorem UL:PutC 46 58 Pm (λ_=>false) (λ_=>[]) (λ_=>1):=λw0 gc gw gx f bad s R b cs x hx _ hc hb hl w hw=>by
 obtain rfl:cs=zOut:=hx
 have h0:rdC w0 R gx f (.int .i64 0):=XAt.one hc
 refine Sy.enterT (args:=[ptr gc,pT gx f]) hw Tryz.func46 J kL<|sC<|sp J<|sp J<|sp J<|sP (pT gx f)<|Sy.callT (λw hw=>EX w0.inn gc gw gx f bad s R b 0 h0 hb om w hw) (λu M hM=>?_)
 obtain ⟨s1,bad1,b1,q1,q2,rfl⟩:=hM
 refine sA<|sp J<|sp J<|sP (pT gx f)<|sS (.int .i64 0) (AK (R:=R) h0 Ba J uy3)<|sG<|Sy.block<|Sy.seq<|Sy.block<|Sy.seq<|Sy.block<|Sy.block<|Sy.block<|Sy.block<|Sy.seq<|Sy.seq<|sC<|sP (.bool false)<|sp J<|sG<|sU<|Sy.skip<|Sy.then_<|Sy.seq<|sC<|sP (.bool false)<|sp J<|sG<|sU<|Sy.skip<|Sy.then_<|Sy.seq<|sC<|sP (.bool false)<|sp J<|sG<|sU<|Sy.skip<|Sy.then_<|sC<|sP (.bool false)<|sp J<|sG<|sU<|Sy.skip<|Sy.then_<|Sy.exit ?_
 refine Sy.in_pass (by decide)<|Sy.in_pass (by decide)<|Sy.in_pass (by decide)<|Sy.in_pass (by decide)<|Sy.then_exit<|Sy.in_exit<|sB<|sp J<|Sy.callT (λw hw=>B2 w0.inn gc gw bad1 false s1 R w hw) (λu M hM=>?_)
 subst hM
 refine sG<|Sy.exit<|Sy.in_exit ?_
 exact Sy.retT0 J (CWS gc gw (bad1 || !false) s1 R) (λ_ h=>h) (λ_=>⟨s1,bad1 || !false,b1,⟨by cases bad1 <;> cases bad <;> rfl,λh=>(by cases bad1 <;> cases h),q1.len⟩,q2,rfl⟩)
theorem Lb {α:Type} {rep:Rdr→List Value→α→Prop} {ok:α→Bool} {enc:α→Byt} {wt:α→Nat} (hm:BN rep) (hp:PutC 46 58 rep ok enc wt) (w:World) (cs:List Value) (x:α) (hx:rep (rdW w) cs x) (hl:cs.length=58) (hwt:wt x≤70368744170000) :
  AL 47 #[.agg cs.toArray,.func (.func 46) #[] #[]] w (BD w (BytE (ok x) (enc x))):=by
 refine Sy.enter (args:=[.agg cs.toArray,.func (.func 46) #[] #[]]) Tryz.func47 J kL<|sC<|sM 63 cs.toArray (λgx=>?_) kR (λw=>Aq J J kZ hl w)
 refine sP (.slice none 0 0)<|sP (.int .i64 0)<|sA<|Sy.callN kR 57 #[] kF _ (λw _=>J2 w) (λv M hM=>?_)
 obtain ⟨gw,rfl,rfl⟩:=hM
 refine sP (.agg #[ptr gw,.pointer none,.bool false])<|sM 134 #[ptr gw,.pointer none,.bool false] (λgc=>?_)
 refine sp J<|sA<|Sy.permS (M:=CWS gc gw false nilS [(gx,63,cs.toArray)]) (Sy.perm_at [2,1,0] kZ (by rfl))<|sp J<|sp J<|Sy.callT (λw' hw=>hp (Base.of w) gc gw gx 0 false nilS [(gx,63,cs.toArray)] [] cs x (hm EF hx) hl (J7 (List.mem_singleton.2 J)) BS.nil (by show 0+_≤_; omega) w' hw) (λv M hM=>?_)
 obtain ⟨s,bad,b,q1,q2,rfl⟩:=hM
 have hbl:b.length≤wt x:=by have:=q1.len; simpa using this
 refine sG<|Sy.seq<|sC<|sp J<|sp J<|sP (pT gc 2)<|sS (.bool bad) (qc 0 2 J J uy4)<|sG ?_
 cases bad
 ·have hok:ok x=true:=by
   have e:=q1.bad
   cases h:ok x with
   | true=>rfl
   | false=>rw [h] at e; cases e
  obtain rfl:b=enc x:=by have:=q1.bytes rfl; simpa using this
  refine sU<|Sy.skip<|sB<|sp J<|sp J<|sP (pT gc 0)<|sS (ptr gw) (qc 0 0 J J Fa)<|Sy.callT (λw' hw=>bytes_any (Base.of w) gw s ((gc,134,#[ptr gw,.pointer none,.bool false])::[(gx,63,cs.toArray)]) (enc x) q2 om w' (hw.perm permCW)) (λv M hM=>?_)
  obtain ⟨N,hN,rfl⟩:=hM
  refine sp J<|sP (.int .i64 0)<|sG<|Sy.ret ?_
  exact Sy.retGM2 N J (.inl (show _=_ by kernel_rfl)) (.inl (show _=_ by kernel_rfl)) (λ_ h=>h.less (List.sublist_append_right _ _)) (.inl ⟨hok,v,rfl,hN⟩)
 ·have hok:ok x=false:=by
   have e:=q1.bad
   cases h:ok x with
   | false=>rfl
   | true=>rw [h] at e; cases e
  refine sT<|sC<|sP (.slice none 0 0)<|sP (.int .i64 120)<|sG<|Sy.ret<|Sy.then_ret ?_
  exact Sy.retGM2 [] rfl (.inl (show _=_ by kernel_rfl)) (.inl (show _=_ by kernel_rfl)) (λ_ h=>h.none) (.inr ⟨hok,rfl,rfl⟩)
theorem S6 {α:Type} {rep:Rdr→List Value→α→Prop} {ok:α→Bool} {enc:α→Byt} {wt:α→Nat} (hm:BN rep) (hp:PutC 46 58 rep ok enc wt) (w:World) (cs:List Value) (x:α) (hx:rep (rdW w) cs x) (hl:cs.length=58) (hwt:wt x≤70368744170000) :
  AL 20 #[.agg cs.toArray] w (BD w (BytE (ok x) (enc x))):=by
 refine Sy.enter (args:=[.agg cs.toArray]) Tryz.func20 J kL<|sC<|sM 63 cs.toArray (λgx=>?_) kR (λw=>Aq J J kZ hl w)
 refine sP (.slice none 0 0)<|sP (.int .i64 0)<|sA<|sS (.agg cs.toArray) (BQ (R:=[(gx,63,cs.toArray)]) (J7 (List.mem_singleton.2 J)) (λ_ h=>h) hl J OA)<|Sy.callN kR 47 #[.agg cs.toArray,.func (.func 46) #[] #[]] kF (BytE (ok x) (enc x)) (λw' hw=>Lb (rep:=rep) hm hp w' cs x (hm (λg o u h=>Ad (R:=[]) hw (λ_ h=>by cases h) g o u (.inl h)) hx) hl hwt) (λv M hM=>?_)
 have hv:∃ a e:Value,v=.tuple #[a,e]:=by
  rcases hM with ⟨_,u,rfl,_⟩ | ⟨_,rfl,_⟩ <;> exact ⟨_,_,rfl⟩
 obtain ⟨a,e,rfl⟩:=hv
 refine sp J<|sp J<|sp J<|sp J<|sG<|Sy.ret ?_
 exact Sy.retGM2 M J (.inl (show _=_ by kernel_rfl)) (.inl (show _=_ by kernel_rfl)) (λ_ h=>h.less (List.sublist_append_right _ _)) hM
def CH:Ps Int:=AH (BT 1) λn=>BF (n:Int)
structure MPa where
 t:Int
 keys:List Byt
def Kr (p:MPa):Bool:=okO p.t && decide (p.keys.length≤16)
def HW (p:MPa):Byt:=[CQ p.t]++G0 (λk=>k) p.keys
def Pw:Ps MPa:=AH CH λt=>AH (Ch 16 (An 32)) λl=>BF ⟨t,l⟩
def Gd (p:MPa):Nat:=1+(9+(p.keys.map λ_=>32).sum)
def Kc (C:Rdr) (cs:List Value) (p:MPa):Prop:=∃ v,cs=[.int .i64 p.t,v]∧LstR C 32 Bj v p.keys
theorem Co:BN Bj:=λ_ h=>h
theorem Vn:PutC 95 32 Bj (λ_=>true) (λx=>x) (λ_=>32):=λw0 gc gw gx f bad s R b cs x hx _ hc hb hl w hw=>by
 obtain ⟨rfl,h1⟩:=hx
 refine Sy.enterT (args:=[ptr gc,pT gx f]) hw Tryz.func95 J kL<|Sy.region<|sp J<|sp J<|sp J<|sP (.slice (some ⟨gx,f,none⟩) 32 32)<|Sy.callT (λw hw=>Kf w0.inn gc gw bad s R b x _ (hc.byt h1 dZ) hb om w hw) (λu M hM=>?_)
 obtain ⟨s1,bad1,b1,k1,k2,rfl⟩:=hM
 refine Sy.nil ?_
 exact Sy.retT0 J (CWS gc gw bad1 s1 R) (λ_ h=>h) (λ_=>⟨s1,bad1,b1,h1 ▸ k1,k2,rfl⟩)
theorem Vo:B7 95 32 Z32 Bj (An 32):=λw0 gc gr gx f tx A Z sl s R S hS hA he hl hv w hw=>by
 refine Sy.enterT (args:=[ptr gc,pT gx f]) hw Tryz.func95 J kL<|Sy.region<|sp J<|sp J<|sp J<|sP (.slice (some ⟨gx,f,none⟩) 32 32)<|Sy.callT (λw hw=>Tb w0.inn gc gr gx f tx A Z sl s R S hS hA he hl hv w hw) (λu M hM=>?_)
 refine Sy.nil ?_
 exact Sy.retT0 J _ (λ_ h=>h) (λ_=>hM)
noncomputable def NU:TypeInfo:=(Tryz.prog.info? 210).getD default
theorem E2:Tryz.prog.info? 210=some NU:=kZ
noncomputable def K_key:LK:=⟨210,38,211,287,212,288,290,338,337,381,94,156,157,158,159,198,235,95,32,32,Z32,NU⟩
theorem QR:K_key.Ok:={
 c_f0:=⟨_,_,Tryz.func94⟩,
 c_fL:=⟨_,_,Tryz.func156⟩,
 c_f1:=⟨_,_,Tryz.func157⟩,
 c_fP:=⟨_,_,Tryz.func158⟩,
 c_f2:=⟨_,_,Tryz.func159⟩,
 c_fI:=⟨_,_,Tryz.func198⟩,
 c_fJ:=⟨_,_,Tryz.func235⟩,
 ute:=⟨_,FV,rfl⟩,
 uts:=FO,
 ufw:=⟨_,U',rfl⟩,
 ufr:=⟨_,U5,rfl⟩,
 inf:=E2,
 zero:=⟨_,rfl,by kernel_rfl⟩,
 size:=rfl,
 byt:=rfl,
 zl:=kZ,
 pos:=(by decide:0<32),
 top:=(by decide:32≤16777216),
 btop:=(by decide:32≤100000000),
 its:=kZ,
 ifw:=kZ,
 ifr:=kZ,
 zts:=⟨(Tryz.prog.info? 38).getD default,by kernel_rfl,by kernel_rfl⟩,
 e_fe:=enters_of Tryz.func95 kR J,
 e_f2:=enters_of Tryz.func159 kR J,
 e_fP:=enters_of Tryz.func158 kR J,
 e_f1:=enters_of Tryz.func157 kR J,
 e_fL:=enters_of Tryz.func156 kR J,
 e_fI:=enters_of Tryz.func198 kR J,
 e_fJ:=enters_of Tryz.func235 kR J }
theorem MK {α:Type} {rep:Rdr→List Value→α→Prop} {ok:α→Bool} {enc:α→Byt} {wt:α→Nat} (hm:BN rep) (hp:PutC 95 32 rep ok enc wt) (w0:Base) (gc gw gx f most:Nat) (hmo:most<1000000) (bad:Bool) (s:Slc) (R:AA) (b:Byt) (v:Value) (l:List α) (hv:LstR (rdC w0 R) 32 rep v l) (hc:rdC w0 R gx f v) (hb:BS s b) (hlen:b.length+(9+(l.map wt).sum)≤70368744170000) (w:World) (hw:St w0 w (CWS gc gw bad s R)) :
  Calls Tryz.prog 94 #[ptr gc,pT gx f,.int .i64 (most:Int),.func (.func 95) #[] #[]] w (AQ w0 (WrC gc gw R (decide (l.length≤most) && l.all ok) (Ap l.length++l.flatMap enc) (9+(l.map wt).sum) bad b)):=EZ (rep:=rep) (ok:=ok) (enc:=enc) (wt:=wt) QR hm hp.own w0 gc gw gx f most hmo bad s R b v l hv hc hb hlen w hw
theorem MQ {α:Type} {rep:Rdr→List Value→α→Prop} {p:Ps α} (hm:BN rep) (hp:B7 95 32 (Z32) rep p) (w0:Base) (gc gr gx f most:Nat) (hmost:most<1000000) (tx:TypeId) (A Z:List Value) (sl:Value) (s:RS) (R S:AA) (hS:∀ b∈S,b∈R) (hA:A.length=f) (he:s.e≤200) (hl:s.rest.length≤70368744177664) (hv:BytR (rdC w0 S) sl s.rest) (w:World) (hw:St w0 w (CRS gc gr gx tx (A++([Value.slice none 0 0]++Z)) sl s.e R)) :
  Calls Tryz.prog 94 #[ptr gc,pT gx f,.int .i64 (most:Int),.func (.func 95) #[] #[]] w (AQ w0 (RdT 1 (Iz 32 rep) (Ch most p) w0 gc gr gx tx A Z s R S)):=Ea (rep:=rep) (p:=p) QR hm hp w0 gc gr gx f most hmost tx A Z sl s R S hS hA he hl hv w hw
theorem After.mustN {α:Type} (y:α) {s s':RS} (h:s'.e≠0):After (AH (BH false) λ_=>BF y) s y s':=⟨λ_=>h,λz r _ hp=>(by cases hp),λ_ _=>h⟩
theorem TD (w:World) (F:AJ) (o:Oper) (x:Operand) (k:Nat) (hk:k<256) (ho:o.op=.convert 5 3 x) (hx:evF F x=bv (UInt8.ofNat k)):(execOp (evF F) o).run Tryz.prog w=.ok (.value (.int .i64 (k:Int))) w:=by
 have e1:(UInt8.ofNat k).toNat=k:=by rw [UInt8.toNat_ofNat']; omega
 have e:(convert 5 3 (.int .u8 (k:Int))).run Tryz.prog w=.ok (.int .i64 (k:Int)) w:=by
  go_simp
  exact BI om om
 unfold execOp
 simp only [ho,hx,bv,e1,e,Sem.run_bind,Sem.run_pure,Result.andThen_ok]
def WM (_:Rdr) (cs:List Value) (z:Int):Prop:=cs=[.int .i64 z]
theorem E_:B7 91 1 [.int .i64 0] WM CH:=λw0 gc gr gx f tx A Z sl s R S hS hA he hl hv w hw=>by
 refine Sy.enterT (args:=[ptr gc,pT gx f]) hw Tryz.func91 J kL<|sC<|sp J<|sS (.bool true) (qg (λw hw=>Cs w0.inn gc gr _ _ (List.mem_cons_self ..) w hw))<|sG<|sT<|Sy.region<|sp J<|sp J<|sp J<|sP (pT gc 1)<|sS (ptr gr) (qc 0 1 J J CV)<|Sy.callT (λw hw=>O8 w0.inn gr sl s ((gc,134,#[.pointer none,ptr gr,.bool false])::(gx,tx,(A++([Value.int .i64 0]++Z)).toArray)::R) S (λb h=>List.mem_cons_of_mem _ (List.mem_cons_of_mem _ (hS b h))) he hv w (hw.perm permCR)) (λu M hM=>?_)
 obtain ⟨x,s',sl',q1,⟨rfl,q2⟩,q3,q4,q5,rfl⟩:=hM
 refine Sy.permS permCR.symm<|sS (.int .i64 (x:Int)) (Quiet.pure (λw=>TD w _ _ _ x q2 J J))<|sp J<|sw 1 J (A++([Value.int .i64 (x:Int)]++Z)).toArray (Writes.one f 3 (.int .i64 (x:Int)) _ _ J kR kR kR J J (by rw [List.size_toArray,List.length_append,hA]; exact Nat.lt_add_of_pos_right (Nat.succ_pos _)) (Bt hA))<|Sy.nil ?_
 exact Sy.retT0 J (CRS gc gr gx tx (A++([Value.int .i64 (x:Int)]++Z)) sl' s'.e R) (λ_ h=>h) (λ_=>⟨(x:Int),s',sl',[Value.int .i64 (x:Int)],[],q1.bind (After.ret _ _),rfl,λu hu=>by rw [List.mem_singleton.1 hu]; rfl,rfl,q3,q4,q5,by rw [List.append_nil]⟩)
theorem P':PutC 49 2 Kc Kr HW Gd:=λw0 gc gw gx f bad s R b cs x hx _ hc hb hl w hw=>by
 obtain ⟨v,rfl,h2⟩:=hx
 unfold Gd at hl
 refine Sy.enterT (args:=[ptr gc,pT gx f]) hw Tryz.func49 J kL<|sC<|sp J<|sp J<|sp J<|sP (pT gx f)<|Sy.callT (λw hw=>EX w0.inn gc gw gx f bad s R b x.t hc.one hb om w hw) (λu M hM=>?_)
 obtain ⟨s1,bad1,b1,q1,q2,rfl⟩:=hM
 have l1:=q1.len
 refine Sy.nil<|Sy.then_<|Sy.region<|sp J<|sp J<|sp J<|sP (pT gx (f+1))<|Sy.callT (λw hw=>MK (rep:=Bj) Co Vn w0.inn gc gw gx (f+1) 16 dZ bad1 s1 R b1 v x.keys h2 hc.tail.one q2 om w hw) (λu M hM=>?_)
 obtain ⟨s2,bad2,b2,q3,q4,rfl⟩:=hM
 refine Sy.nil ?_
 have q:=q1.then_ q3
 rw [DP,Bool.and_true] at q
 exact Sy.retT0 J (CWS gc gw bad2 s2 R) (λ_ h=>h) (λ_=>⟨s2,bad2,b2,q,q4,rfl⟩)
theorem QA:B7 49 2 ([Value.int .i64 0]++[Value.slice none 0 0]) Kc Pw:=λw0 gc gr gx f tx A Z sl s R S hS hA he hl hv w hw=>by
 refine Sy.enterT (args:=[ptr gc,pT gx f]) hw Tryz.func49 J kL<|sC<|sp J<|sp J<|sp J<|sP (pT gx f)<|Sy.callT (λw hw=>E_ w0.inn gc gr gx f tx A ([Value.slice none 0 0]++Z) sl s R S hS hA he hl hv w hw) (λu M hM=>?_)
 obtain ⟨x1,s1,sl1,cs1,N1,a1,a2,a3,rfl,a5,a6,a7,rfl⟩:=hM
 refine Sy.nil<|Sy.then_<|Sy.region<|sp J<|sp J<|sp J<|sP (pT gx (f+1))<|Sy.callT (λw hw=>MQ (rep:=Bj) (p:=An 32) Co Vo w0.inn gc gr gx (f+1) 16 dZ tx (A++[.int .i64 x1]) Z sl1 s1 (R++N1) S (λb h=>List.mem_append_left _ (hS b h)) (by rw [List.length_append,hA]; rfl) a5 (Nat.le_trans a6 hl) a7 w (by rw [List.append_assoc]; exact hw)) (λu M hM=>?_)
 obtain ⟨x2,s2,sl2,cs2,N2,b1,b2,b3,⟨v,rfl,b4⟩,b5,b6,b7,rfl⟩:=hM
 refine Sy.nil ?_
 exact Sy.retT0 J (CRS gc gr gx tx (A++(([.int .i64 x1]++[v])++Z)) sl2 s2.e (R++(N1++N2))) (λ_ h=>by simpa only [List.append_assoc] using h) (λ_=>⟨⟨x1,x2⟩,s2,sl2,_,N1++N2,a1.bind (b1.bind (After.ret _ _)),rfl,AD a3 b3,⟨v,rfl,LstR.le (rep:=Bj) Co (AV λb h=>List.mem_append_right _ h) b4⟩,b5,Nat.le_trans b6 a6,b7,rfl⟩)
theorem Tc {C:Rdr} {cs:List Value} {t:MPa} (h:Kc C cs t):∀ u∈cs,u.oneCell'=true:=by
 obtain ⟨v,rfl,h⟩:=h
 intro u hu
 rcases List.mem_cons.1 hu with rfl | hu
 ·rfl
 ·rw [List.mem_singleton.1 hu]; exact h.cells.2
theorem SN:Opn 210 32 Bj (λ_=>0):=(QJ FV uy5 kZ kZ).as λC cs x h=>⟨x,h,Nat.le_refl _⟩
theorem SK:Opn 40 2 Kc (λt=>t.keys.length):=(Lv Ro kZ kZ kZ kZ (Ko uy3) (G7 FO kZ dZ SN)).as λC cs (a,l) ⟨a0,a1,e,e0,⟨v,e1,h2⟩⟩=>by
 obtain rfl:a0=[.int .i64 a]:=e0
 subst e1 e
 exact ⟨⟨a,l⟩,⟨v,rfl,h2⟩,by show l.length≤0+(l.length+_); omega⟩
theorem T5 (b:Byt) (most:Nat):(vrN b most).1≤most:=by
 by_cases h:(vrN b most).2.2=0
 ·exact (JV h).2.2
 ·unfold vrN at h ⊢
  by_cases hc:(vrG b).2.2=0∧most<(vrG b).1
  ·rw [if_pos hc]; exact Nat.zero_le _
  ·rw [if_neg hc] at h ⊢
   rw [Hv h]; exact Nat.zero_le _
theorem OH (w0:Base) (gr:Nat) (sl:Value) (s:RS) (R S:AA) (hS:∀ b∈S,b∈R) (most:Nat) (hm:most<1000000) (he0:s.e≤200) (hl:s.rest.length≤70368744177664) (hv:BytR (rdC w0 S) sl s.rest) (w:World) (hw:St w0 w (RQ gr sl s.e R)) :
  AL 150 #[ptr gr,.int .i64 (most:Int)] w (AQ w0 (Uw (Bq most) (λx v N=>ByN x v N) w0 gr R S s)):=by
 have hv0:=hv
 obtain ⟨A,m,cp,rfl,h2,h3,h4,h5⟩:=hv
 obtain ⟨f,hf⟩:=xE (vrN s.rest most)
 obtain ⟨q1,q2,q3⟩:=Hh s.rest most
 have hlt:=T5 s.rest most
 have hy:=@JV s.rest most
 have hno:=@PE s.rest most
 rw [← hf] at q1 q2 q3 hy hno hlt
 obtain ⟨e,he⟩:=xE (if f.2.2=0∧m - f.2.1<f.1 then 110 else f.2.2)
 have he2:e≤200:=by rw [he]; split <;> omega
 refine Sy.enterT (args:=[ptr gr,.int .i64 (most:Int)]) hw Tryz.func150 J kL<|sC<|sP (.slice none 0 0)<|sA<|sp J<|sp J<|sP (pT gr 0)<|sS (.slice A m cp) (qc 0 0 J J Aw)<|sp J<|sS (t3V f) (qg (λw' hw=>by rw [hf]; exact HJ w' _ _ most om (hv0.le (Ad (w0:=w0.inn) hw (λ_ h=>List.mem_cons_of_mem _ (hS _ h))))))<|sp J<|sp J<|sp J<|sp J<|sp J<|sp J<|sp J<|sG<|Sy.seq<|DN [(0,ptr gr),(5,uZ (f.1:Int)),(6,.int .i64 (f.2.1:Int)),(7,.int .i64 (e:Int))] (RQ gr (.slice A m cp) s.e R) ?_ ?_
 ·refine sC ?_
  obtain ⟨b1,hb1⟩:=xE (decide (f.2.2=0))
  refine sp J<|sS (.bool b1) (qeq J J J hb1)<|sp J ?_
  cases b1
  ·have l1:=dN hb1
   rw [if_neg (λh=>l1 h.1)] at he
   rw [he]
   refine sN<|sN<|sN<|sN<|sN<|sN<|sN<|sN<|sN<|sN<|sP (.bool false)<|sG<|sU<|Sy.skip ?_
   exact A_ ac4 (λ_ h=>h)
  have l1:=dY hb1
  obtain ⟨b2,hb2⟩:=xE (decide (m - f.2.1<f.1))
  have l2:=(hy l1).2.1
  refine sp J<|sp J<|sp J<|sP (pT gr 0)<|sS (.slice A m cp) (qc 0 0 J J Aw)<|sP (.int .i64 (m:Int))<|sp J<|sS (iZ (m - f.2.1)) (Quiet.pure (AE .sub _ _ _ .i64 _ _ _ J J J (Cf _ _ _ _ _ ((BI (by simp only [maxLen] at h4; omega) (by simp only [maxLen] at h4; omega)).trans om))))<|sS (uZ ((m - f.2.1:Nat):Int)) (Quiet.pure (λw=>DG w _ _ _ (m - f.2.1) (by simp only [maxLen] at h4; omega) rfl J))<|sS (.bool b2) (Quiet.pure (AE .gtr _ _ _ .u64 _ _ _ J J J (Dx _ _ _ _ _ (by rw [hb2]; exact decide_eq_decide.2 om))))<|sP (.bool b2)<|sG ?_
  cases b2
  ·have l3:=dN hb2
   rw [if_neg (λh=>l3 h.2)] at he
   rw [he]
   refine sU<|Sy.skip ?_
   exact A_ ac4 (λ_ h=>h)
  ·have l3:=dY hb2
   rw [if_pos ⟨l1,l3⟩] at he
   rw [he]
   refine sT<|Sy.region<|sP (.int .i64 110)<|Sy.nil ?_
   exact A_ ac4 (λ_ h=>h)
 refine sB<|sp J<|sp J<|sp J<|sp J<|sS (.int .i64 (f.1:Int)) (Quiet.pure (λw=>GX w _ _ _ f.1 om J J))<|sS (iZ (f.2.1+f.1)) (qad J J J)<|sp J<|Sy.callT (λw hw=>JF (Bq most) w0.inn gr (.slice A m cp) s R S hS f.2.1 (f.2.1+f.1) e he0 he2 hl (λh=>?_) (λh=>?_) hv0 w hw) (λv M hM=>?_)
 ·have hz:f.2.2=0∧¬ m - f.2.1<f.1:=by
   by_cases h1:f.2.2=0∧m - f.2.1<f.1
   ·rw [if_pos h1] at he; omega
   ·rw [if_neg h1] at he
    exact ⟨by omega,λh2=>h1 ⟨by omega,h2⟩⟩
  obtain ⟨y1,y2,y3⟩:=hy hz.1
  refine ⟨Nat.le_add_right _ _,by omega,?_⟩
  unfold Bq
  rw [bind_some y1,Nat.add_sub_cancel_left, ← List.drop_drop]
  exact if_pos (by rw [List.length_drop]; omega)
 ·by_cases h1:f.2.2=0
  ·have h3:m - f.2.1<f.1:=by
    by_cases h4:m - f.2.1<f.1
    ·exact h4
    ·rw [if_neg (λh=>h4 h.2)] at he; exact (h om).elim
   obtain ⟨y1,y2,y3⟩:=hy h1
   unfold Bq
   rw [bind_some y1]
   exact if_neg (by rw [List.length_drop]; omega)
  ·exact bind_none (hno h1)
 obtain ⟨x,s',sl',N,hA,⟨hN,_⟩,r2,r3,r4,rfl⟩:=hM
 refine sp J<|sG<|Sy.ret ?_
 exact Sy.retT1 (RQ gr sl' s'.e (R++N)) J (.inl (show _=_ by kernel_rfl)) (λ_ h=>h) ⟨x,s',sl',N,hA,hN,r2,r3,r4,rfl⟩
def DX (C:Rdr) (cs:List Value) (b:Byt):Prop:=∃ v,cs=[v]∧BytR C v b
theorem EQ (w0:Base) (gc gw gx f:Nat) (bad:Bool) (s:Slc) (R:AA) (b x:Byt) (v:Value) (most:Nat) (hmo:most<1000000) (hv:BytR (rdC w0 R) v x) (hc:rdC w0 R gx f v) (hb:BS s b) (hl:b.length+(9+x.length)≤70368744176000) (w:World) (hw:St w0 w (CWS gc gw bad s R)) :
  AL 88 #[ptr gc,pT gx f,.int .i64 (most:Int)] w (AQ w0 (WrC gc gw R (decide (x.length≤most)) (Ap x.length++x) (9+x.length) bad b)):=by
 have hv0:=hv
 obtain ⟨A,n,cp,rfl,h2,h3,h4,h5⟩:=hv
 have hn9:=Dc x.length
 obtain ⟨ok,hok⟩:=xE (decide (x.length≤most))
 rw [← hok]
 rw [h2] at hok
 refine Sy.enterT (args:=[ptr gc,pT gx f,.int .i64 (most:Int)]) hw Tryz.func88 J kL<|sC<|sp J<|sS (.bool false) (qg (λw hw=>DD w0.inn gc _ _ (List.mem_cons_self ..) w hw))<|sG<|sU<|sC<|sp J<|sp J<|sp J<|sS (.slice A n cp) (AK (R:=R) hc Ba J Aw)<|sP (.int .i64 (n:Int))<|sp J<|sS (.bool ok) (qle J J J hok)<|Sy.callT (λw hw=>B2 w0.inn gc gw bad ok s R w hw) (λu M hM=>?_)
 subst hM
 refine Sy.nil<|Sy.then_<|Sy.regionD (λj=>j == 7) kR<|sa 0 J J<|sa 1 J J<|sb 2 J (pT gc 0)<|sD 3 J (ptr gw) (qc 0 0 J J Fa)<|sa 4 J J<|sa 5 J J<|sD 6 J (.slice A n cp) (AK (R:=R) hc Ba J Aw)<|Sy.soleD 7 J (λQ2 hq2=>?_)
 refine Sy.callT (λw hw=>PN w0.inn gw s ((gc,134,#[ptr gw,.pointer none,.bool (bad || !ok)])::R) b x (.slice A n cp) (hv0.le (EV (λ_ h=>List.mem_cons_of_mem _ h))) hb om w (hw.perm permCW)) (λu M hM=>?_)
 obtain ⟨s1,hs1,rfl⟩:=hM
 refine Sy.permS permCW.symm<|hq2 _ _<|sE ?_
 have q:=(Wrote.must ok bad b).then_ (Wrote.raw (Ap x.length++x) (bad || !ok) b (k:=9+x.length) (by rw [List.length_append]; omega))
 rw [Bool.and_true,List.nil_append,Nat.zero_add] at q
 exact Sy.retT0 J (CWS gc gw (bad || !ok) s1 R) (λ_ h=>h) (λ_=>⟨s1,bad || !ok,_,q,hs1,rfl⟩)
theorem ER (most:Nat) (hmo:most<1000000) (w0:Base) (gc gr gx f:Nat) (tx:TypeId) (A Z:List Value) (sl:Value) (s:RS) (R S:AA) (hS:∀ b∈S,b∈R) (hA:A.length=f) (he:s.e≤200) (hl:s.rest.length≤70368744177664) (hv:BytR (rdC w0 S) sl s.rest) (w:World) (hw:St w0 w (CRS gc gr gx tx (A++([Value.slice none 0 0]++Z)) sl s.e R)) :
  AL 88 #[ptr gc,pT gx f,.int .i64 (most:Int)] w (AQ w0 (RdT 1 DX (Bq most) w0 gc gr gx tx A Z s R S)):=by
 refine Sy.enterT (args:=[ptr gc,pT gx f,.int .i64 (most:Int)]) hw Tryz.func88 J kL<|sC<|sp J<|sS (.bool true) (qg (λw hw=>Cs w0.inn gc gr _ _ (List.mem_cons_self ..) w hw))<|sG<|sT<|Sy.region<|sp J<|sp J<|sp J<|sP (pT gc 1)<|sS (ptr gr) (qc 0 1 J J CV)<|sp J<|Sy.callT (λw hw=>OH w0.inn gr sl s ((gc,134,#[.pointer none,ptr gr,.bool false])::(gx,tx,(A++([Value.slice none 0 0]++Z)).toArray)::R) S (λb h=>List.mem_cons_of_mem _ (List.mem_cons_of_mem _ (hS b h))) most hmo he hl hv w (hw.perm permCR)) (λu M hM=>?_)
 obtain ⟨x,s',sl',N,q1,q2,q3,q4,q5,rfl⟩:=hM
 refine Sy.permS (M:=CRS gc gr gx tx (A++([Value.slice none 0 0]++Z)) sl' s'.e (R++N)) permCR.symm ?_
 have hc:=q2.byt.cells
 refine sp J<|sw 1 J (A++([u]++Z)).toArray (Writes.one f 27 u _ _ J kR kR kR hc.1 hc.2 (by rw [List.size_toArray,List.length_append,hA]; exact Nat.lt_add_of_pos_right (Nat.succ_pos _)) (Bt hA))<|Sy.nil ?_
 exact Sy.retT0 J (CRS gc gr gx tx (A++([u]++Z)) sl' s'.e (R++N)) (λ_ h=>h) (λ_=>⟨x,s',sl',[u],N,q1,rfl,λy hy=>by rw [List.mem_singleton.1 hy]; exact hc.2,⟨u,rfl,q2.byt⟩,q3,q4,q5,rfl⟩)
theorem Ct (w0:Base) (gc gr:Nat) (sl:Value) (e:Nat) (he:e≤200) (R:AA) (h:Bool) (w:World) (hw:St w0 w (CRN gc gr sl e R)) :
  AL 90 #[ptr gc,.bool h] w (AQ w0 (λ_ M=>M=CRN gc gr sl (if h=true then e else if e=0 then 120 else e) R)):=by
 refine Sy.enterT (args:=[ptr gc,.bool h]) hw Tryz.func90 J kL<|Sy.block<|sC<|sp J<|sp J<|sG ?_
 cases h
 ·rw [if_neg dZ]
  refine sU<|sC<|sp J<|sS (.bool true) (qg (λw hw=>Cs w0.inn gc gr _ _ (List.mem_cons_self ..) w hw))<|sp J<|sG<|sT<|Sy.region<|sp J<|sp J<|sP (pT gc 1)<|sS (ptr gr) (qc 0 1 J J CV)<|Sy.callT (λw hw=>Ih w0.inn gr sl e 120 he ((gc,134,#[.pointer none,ptr gr,.bool false])::R) w (hw.perm (List.Perm.swap _ _ _))) (λu M hM=>?_)
  subst hM
  refine Sy.permS (List.Perm.swap _ _ _)<|Sy.nil<|Sy.in_ ?_
  exact Sy.retT0 J (CRN gc gr sl (if e=0 then 120 else e) R) (λ_ h=>h) (λ_=>by rfl)
 ·rw [if_pos J]
  refine sT<|Sy.skip<|Sy.in_ ?_
  exact Sy.retT0 J (CRN gc gr sl e R) (λ_ h=>h) (λ_=>by rfl)
theorem OwnAt.left {R:AA} {gx f:Nat} {a b:List Value} (h:OwnAt R gx f (a++b)):OwnAt R gx f a:=by
 obtain ⟨tx,A,Z,hm,hA⟩:=h
 exact ⟨tx,A,b++Z,by rw [← List.append_assoc a]; exact hm,hA⟩
theorem OwnAt.right {R:AA} {gx f n:Nat} {a b:List Value} (h:OwnAt R gx f (a++b)) (hn:a.length=n):OwnAt R gx (f+n) b:=by
 obtain ⟨tx,A,Z,hm,hA⟩:=h
 exact ⟨tx,A++a,Z,by rw [List.append_assoc, ← List.append_assoc a]; exact hm,by rw [List.length_append,hA,hn]⟩
theorem swM {P:Program} {w0:Base} {n:Nat} {ops:Array Oper} {Q:Exit→Act→World→Prop} {F:AJ} {L:AA} {l:List Oper} {o:Oper} {g:Nat} {t:TypeId} {cs:Array Value} (hm:(g,t,cs)∈L) (hw:Writes P F o g t cs cs) (h:wpS P w0 n ops Q (Bp F o.dst undef) L l) (hg:B4 ops n F o=true:=by kernel_rfl):wpS P w0 n ops Q F L (o::l):=by
 obtain ⟨i,hi⟩:=List.getElem?_of_mem hm
 refine Sy.write hg i g t cs cs hi hw ?_
 obtain ⟨hlt,he⟩:=List.getElem?_eq_some_iff.1 hi
 have e:L.set i (g,t,cs)=L:=by rw [← he]; exact List.set_getElem_self hlt
 rw [e]
 exact h
theorem permB {b:Nat×TypeId×Array Value} {L:AA}:(b::L).Perm (L++[b]):=List.perm_append_comm (l₁:=[b]) (l₂:=L)
def trB (x:Bool):UInt8:=CQ (if x=true then 1 else 0)
theorem Jc (w0:Base) (gc gw gx f:Nat) (bad:Bool) (s:Slc) (R:AA) (b:Byt) (x:Bool) (hc:OwnAt R gx f [.bool x]) (hb:BS s b) (hl:b.length+1≤70368744177000) (w:World) (hw:St w0 w (CWS gc gw bad s R)) :
  AL 89 #[ptr gc,pT gx f] w (AQ w0 (WrC gc gw R true [trB x] 1 bad b)):=by
 have hcell:rdC w0.inn R gx f (.bool x):=(hc.at w0.inn).one
 obtain ⟨tx,A,Z,hmem,hA⟩:=hc
 refine Sy.enterT (args:=[ptr gc,pT gx f]) hw Tryz.func89 J kL<|sC<|sM 3 #[.int .i64 0] (λg4=>?_)
 refine Sy.permS List.perm_append_comm<|sw 0 J #[.int .i64 0] (wO 0 3 (.int .i64 0) rfl)<|sG ?_
 obtain ⟨z,hz⟩:∃ z:Int,z=if x=true then 1 else 0:=⟨_,rfl⟩
 have hz1:decide (z≤1)=true:=by rw [hz]; cases x <;> rfl
 have hzx:x=decide (z=1):=by rw [hz]; cases x <;> rfl
 have hzo:okO z=true:=by rw [hz]; cases x <;> rfl
 refine Sy.seq<|DN [(0,ptr gc),(1,pT gx f),(4,ptr g4)] ((g4,3,#[.int .i64 z])::CWS gc gw bad s R) ?_ ?_
 ·refine sC ?_
  refine sp J<|sp J<|sS (.bool x) (AK (R:=R) hcell (λy hy=>List.mem_cons_of_mem _ (Ba y hy)) J uy4)<|sG ?_
  cases x
  ·obtain rfl:z=0:=hz
   refine sU<|Sy.skip ?_
   exact A_ ac3 (λ_ h=>h)
  ·obtain rfl:z=1:=hz
   refine sT<|Sy.region<|sw 0 J #[.int .i64 1] (wO 0 3 (.int .i64 1) rfl)<|Sy.nil ?_
   exact A_ ac3 (λ_ h=>h)
 refine sB<|sp J<|Sy.permS (M:=CWS gc gw bad s (R++[(g4,3,#[.int .i64 z])])) (permB.trans (List.Perm.of_eq eqCW))<|Sy.callT (λw hw=>EX w0.inn gc gw g4 0 bad s (R++[(g4,3,#[.int .i64 z])]) b z (CM Eh) hb om w hw) (λu M hM=>?_)
 obtain ⟨s1,bad1,b1,q1,q2,rfl⟩:=hM
 refine sA<|sp J<|sS (.int .i64 z) (AK (R:=R++[(g4,3,#[.int .i64 z])]) (CM Eh) Ba J uy3)<|sS (.bool true) (Quiet.pure (AE .leq _ _ _ .i64 _ _ _ J J J (Eb _ _ _ _ _ hz1)))<|Sy.callT (λw hw=>B2 w0.inn gc gw bad1 true s1 (R++[(g4,3,#[.int .i64 z])]) w hw) (λu M hM=>?_)
 subst hM
 rw [show (bad1 || !true)=bad1 by cases bad1 <;> rfl]
 refine Sy.nil<|Sy.then_<|Sy.region<|sp J<|sS (.int .i64 z) (AK (R:=R++[(g4,3,#[.int .i64 z])]) (CM Eh) Ba J uy3)<|sS (.bool x) (Quiet.pure (AE .eql _ _ _ .i64 _ _ _ J J J (Aa _ _ _ _ _ hzx.symm)))<|sp J<|swM (Ba _ (inA hmem)) (Writes.one f 4 (.bool x) _ _ J kR kR kR J J (by rw [List.size_toArray,List.length_append,hA]; exact Nat.lt_add_of_pos_right (Nat.succ_pos _)) (Bt hA))<|Sy.nil ?_
 rw [hzo,show CQ z=trB x by rw [hz]; rfl] at q1
 exact Sy.retT0 J (CWS gc gw bad1 s1 R) (λ_ h=>GU h) (λ_=>⟨s1,bad1,b1,q1,q2,rfl⟩)
def VI (_:Rdr) (cs:List Value) (b:Bool):Prop:=cs=[.bool b]
def Gj:Ps Bool:=AH CH λz=>AH (BH (decide (z≤1))) λ_=>BF (decide (z=1))
theorem P8 {a b c d:Nat×TypeId×Array Value} {R:AA}:(a::b::c::d::R).Perm (b::a::d::c::R):=by
 have h2:([a,b,c,d]++R).Perm ([b,a,d,c]++R):=(Sy.perm_at [1,0,3,2] kZ (by rfl)).append_right R
 exact h2
theorem Jd:B7 89 1 [.bool false] VI Gj:=λw0 gc gr gx f tx A Z sl s R S hS hA he hl hv w hw=>by
 refine Sy.enterT (args:=[ptr gc,pT gx f]) hw Tryz.func89 J kL<|sC<|sM 3 #[.int .i64 0] (λg4=>?_)
 refine Sy.permS List.perm_append_comm<|sw 0 J #[.int .i64 0] (wO 0 3 (.int .i64 0) rfl)<|sG<|Sy.seq<|sC<|sp J<|sp J<|sS (.bool false) (Quiet.cell 2 gx f tx 4 (A++([Value.bool false]++Z)).toArray _ _ J kR J uy4 J _ (by rw [List.getElem?_toArray,List.getElem?_append_right om,hA,Nat.sub_self]; rfl)) ?_
 refine sG<|sU<|Sy.skip<|sB<|sp J ?_
 have p4:((g4,3,#[Value.int .i64 0])::CRS gc gr gx tx (A++([Value.bool false]++Z)) sl s.e R).Perm (CRS gc gr g4 3 ([]++([Value.int .i64 0]++[])) sl s.e ((gx,tx,(A++([Value.bool false]++Z)).toArray)::R)):=P8
 refine Sy.permS p4<|Sy.callT (λw hw=>E_ w0.inn gc gr g4 0 3 [] [] sl s ((gx,tx,(A++([Value.bool false]++Z)).toArray)::R) S (λb h=>List.mem_cons_of_mem _ (hS b h)) J he hl hv w hw) (λu M hM=>?_)
 obtain ⟨x1,s1,sl1,cs1,N1,a1,a2,a3,rfl,a5,a6,a7,rfl⟩:=hM
 obtain ⟨b1,hb1⟩:=xE (decide (x1≤1))
 obtain ⟨b2,hb2⟩:=xE (decide (x1=1))
 obtain ⟨e2,he2⟩:=xE (if b1=true then s1.e else if s1.e=0 then 120 else s1.e)
 refine sA<|sp J<|sS (.int .i64 x1) (qc 1 0 J J uy3)<|sS (.bool b1) (Quiet.pure (AE .leq _ _ _ .i64 _ _ _ J J J (Eb _ _ _ _ _ hb1.symm)))<|Sy.permS (M:=CRN gc gr sl1 s1.e ((g4,3,([]++([Value.int .i64 x1]++[])).toArray)::((gx,tx,(A++([Value.bool false]++Z)).toArray)::(R++N1)))) Bs<|Sy.callT (λw hw=>Ct w0.inn gc gr sl1 s1.e a5 ((g4,3,([]++([Value.int .i64 x1]++[])).toArray)::((gx,tx,(A++([Value.bool false]++Z)).toArray)::(R++N1))) b1 w hw) (λu M hM=>?_)
 subst hM
 rw [← he2]
 refine Sy.nil<|Sy.then_<|Sy.region<|sp J<|sS (.int .i64 x1) (qc 2 0 J J uy3)<|sS (.bool b2) (Quiet.pure (AE .eql _ _ _ .i64 _ _ _ J J J (Aa _ _ _ _ _ hb2.symm)))<|sp J<|sw 3 J (A++([Value.bool b2]++Z)).toArray (Writes.one f 4 (.bool b2) _ _ J kR kR kR J J (by rw [List.size_toArray,List.length_append,hA]; exact Nat.lt_add_of_pos_right (Nat.succ_pos _)) (Bt hA))<|Sy.nil ?_
 have hA2:After Gj s b2 ⟨s1.rest,e2⟩:=a1.bind (by
  rw [← hb1, ← hb2]
  cases b1
  ·exact After.mustN b2 (by show e2≠0; rw [he2,if_neg dZ]; split <;> omega)
  ·have e:(⟨s1.rest,e2⟩:RS)=s1:=by rw [he2,if_pos J]
   rw [e]
   exact After.ret b2 s1)
 exact Sy.retT0 J (CRS gc gr gx tx (A++([Value.bool b2]++Z)) sl1 e2 (R++N1)) (λw h=>Sy.St.parts (ls:=[[(gc,134,#[.pointer none,ptr gr,.bool false])],[(gr,253,#[sl1,.int .i64 (e2:Int)])],[(g4,3,([]++([Value.int .i64 x1]++[])).toArray)],[(gx,tx,(A++([Value.bool b2]++Z)).toArray)],R++N1]) (ms:=[[(gc,134,#[.pointer none,ptr gr,.bool false])],[(gx,tx,(A++([Value.bool b2]++Z)).toArray)],[(gr,253,#[sl1,.int .i64 (e2:Int)])],R++N1]) [[(g4,3,([]++([Value.int .i64 x1]++[])).toArray)]] [0,3,1,4,2] kZ (by rfl) (by simp) (by simp) h) (λ_=>⟨b2,⟨s1.rest,e2⟩,sl1,[Value.bool b2],N1,hA2,rfl,λu hu=>by rw [List.mem_singleton.1 hu]; rfl,rfl,by show e2≤200; rw [he2]; split; exact a5; split <;> omega,a6,a7,rfl⟩)
theorem Wrote.le {ok:Bool} {e:Byt} {k k':Nat} {bad bad':Bool} {b b':Byt} (h:Wrote ok e k bad b bad' b') (hk:k≤k'):Wrote ok e k' bad b bad' b':=⟨h.bad,h.bytes,by have:=h.len; omega⟩
structure MHe where
 prev:Byt
 height:Nat
 time:Nat
 root:Byt
 main:Byt
 reward:Byt
 change:Bool
 next:MPa
def GH (h:MHe):Bool:=decide (h.reward.length≤256) && (if h.change=true then Kr h.next else decide (h.next.t=0) && decide (h.next.keys.length=0))
def Fg (h:MHe):Byt:=h.prev++(nb 8 h.height++(nb 8 h.time++(h.root++(h.main++((Ap h.reward.length++h.reward)++([trB h.change]++(if h.change=true then HW h.next else [])))))))
def Dq (h:MHe):Nat:=32+(8+(8+(32+(32+((9+h.reward.length)+(1+Gd h.next))))))
def Jq:Ps MHe:=AH (An 32) λp=>AH (BT 8) λh=>AH (BT 8) λt=>AH (An 32) λr=>AH (An 32) λm=>AH (Bq 256) λw=>AH Gj λc=>AH (if c=true then Pw else BF ⟨0,[]⟩) λn=>BF ⟨p,h,t,r,m,w,c,n⟩
def cHE (h:MHe) (vr vk:Value):List Value:=h.prev.map bv++([.int .u64 (h.height:Int)]++([.int .u64 (h.time:Int)]++(h.root.map bv++(h.main.map bv++([vr]++([.bool h.change]++([.int .i64 h.next.t]++[vk])))))))
def Ds (C:Rdr) (cs:List Value) (h:MHe):Prop:=∃ vr vk,cs=cHE h vr vk∧h.prev.length=32∧h.root.length=32∧h.main.length=32∧h.height<18446744073709551616∧h.time<18446744073709551616∧BytR C vr h.reward∧LstR C 32 Bj vk h.next.keys
theorem MF:BN Ds:=λhl ⟨vr,vk,h1,h2,h3,h4,h5,h6,h7,h8⟩=>⟨vr,vk,h1,h2,h3,h4,h5,h6,h7.le hl,LstR.le (rep:=Bj) Co hl h8⟩
theorem Q3:Fw 43 102 Ds GH Fg Dq:=λw0 gc gw gx f bad s R b cs x hx _ hc hb hl w hw=>by
 obtain ⟨pv,hi,ti,rt,mn,rd,ch,nx⟩:=x
 obtain ⟨vr,vk,rfl,h1,h2,h3,h4,h5,h6,h7⟩:=hx
 dsimp only at h1 h2 h3 h4 h5 h6 h7
 unfold Dq at hl
 dsimp only at hl
 have e1:(pv.map bv).length=32:=by rw [List.length_map,h1]
 have e2:(rt.map bv).length=32:=by rw [List.length_map,h2]
 have e3:(mn.map bv).length=32:=by rw [List.length_map,h3]
 have c0:OwnAt R gx f (pv.map bv++([uZ (hi:Int)]++([uZ (ti:Int)]++(rt.map bv++(mn.map bv++([vr]++([.bool ch]++([.int .i64 nx.t]++[vk])))))))):=hc
 have c1:OwnAt R gx (f+32) ([uZ (hi:Int)]++([uZ (ti:Int)]++(rt.map bv++(mn.map bv++([vr]++([.bool ch]++([.int .i64 nx.t]++[vk]))))))):=c0.right e1
 have c2:OwnAt R gx (f+33) ([uZ (ti:Int)]++(rt.map bv++(mn.map bv++([vr]++([.bool ch]++([.int .i64 nx.t]++[vk])))))):=c1.right (n:=1) rfl
 have c3:OwnAt R gx (f+34) (rt.map bv++(mn.map bv++([vr]++([.bool ch]++([.int .i64 nx.t]++[vk]))))):=c2.right (n:=1) rfl
 have c4:OwnAt R gx (f+66) (mn.map bv++([vr]++([.bool ch]++([.int .i64 nx.t]++[vk])))):=by have q:=c3.right e2; rwa [Nat.add_assoc] at q
 have c5:OwnAt R gx (f+98) ([vr]++([.bool ch]++([.int .i64 nx.t]++[vk]))):=by have q:=c4.right e3; rwa [Nat.add_assoc] at q
 have c6:OwnAt R gx (f+99) ([.bool ch]++([.int .i64 nx.t]++[vk])):=c5.right (n:=1) rfl
 have c7:OwnAt R gx (f+100) ([.int .i64 nx.t]++[vk]):=c6.right (n:=1) rfl
 refine Sy.enterT (args:=[ptr gc,pT gx f]) hw Tryz.func43 J kL<|sC<|sp J<|sp J<|sp J<|sP (pT gx f)<|Sy.callT (λw hw=>Cx w0.inn gc gw gx f bad s R b pv h1 (c0.at w0.inn).left hb om w hw) (λu M hM=>?_)
 obtain ⟨s1,bad1,b1,q1,p1,rfl⟩:=hM
 have l1:=q1.len
 refine sA<|sp J<|sp J<|sp J<|sP (pT gx (f+32))<|Sy.callT (λw hw=>Fm w0.inn gc gw gx (f+32) bad1 s1 R b1 hi h4 (c1.at w0.inn).one p1 om w hw) (λu M hM=>?_)
 obtain ⟨s2,bad2,b2,q2,p2,rfl⟩:=hM
 have l2:=q2.len
 refine sA<|sp J<|sp J<|sp J<|sP (pT gx (f+33))<|Sy.callT (λw hw=>Fm w0.inn gc gw gx (f+33) bad2 s2 R b2 ti h5 (c2.at w0.inn).one p2 om w hw) (λu M hM=>?_)
 obtain ⟨s3,bad3,b3,q3,p3,rfl⟩:=hM
 have l3:=q3.len
 refine sA<|sp J<|sp J<|sp J<|sP (pT gx (f+34))<|Sy.callT (λw hw=>Cx w0.inn gc gw gx (f+34) bad3 s3 R b3 rt h2 (c3.at w0.inn).left p3 om w hw) (λu M hM=>?_)
 obtain ⟨s4,bad4,b4,q4,p4,rfl⟩:=hM
 have l4:=q4.len
 refine sA<|sp J<|sp J<|sp J<|sP (pT gx (f+66))<|Sy.callT (λw hw=>Cx w0.inn gc gw gx (f+66) bad4 s4 R b4 mn h3 (c4.at w0.inn).left p4 om w hw) (λu M hM=>?_)
 obtain ⟨s5,bad5,b5,q5,p5,rfl⟩:=hM
 have l5:=q5.len
 refine sA<|sp J<|sp J<|sp J<|sP (pT gx (f+98))<|Sy.callT (λw hw=>EQ w0.inn gc gw gx (f+98) bad5 s5 R b5 rd vr 256 dZ h6 (c5.at w0.inn).one p5 om w hw) (λu M hM=>?_)
 obtain ⟨s6,bad6,b6,q6,p6,rfl⟩:=hM
 have l6:=q6.len
 refine sA<|sp J<|sp J<|sp J<|sP (pT gx (f+99))<|Sy.callT (λw hw=>Jc w0.inn gc gw gx (f+99) bad6 s6 R b6 ch c6.left p6 om w hw) (λu M hM=>?_)
 obtain ⟨s7,bad7,b7,q7,p7,rfl⟩:=hM
 have l7:=q7.len
 refine sA<|sp J<|sp J<|sP (pT gx (f+99))<|sS (.bool ch) (AK (R:=R) (c6.at w0.inn).one Ba J uy4)<|sG ?_
 have q:=q1.then_ (q2.then_ (q3.then_ (q4.then_ (q5.then_ (q6.then_ q7)))))
 have i0:rdC w0.inn R gx (f+100) (.int .i64 nx.t):=(c7.at w0.inn).one
 have i1:rdC w0.inn R gx (f+101) vk:=((c7.right (n:=1) rfl).at w0.inn).one
 cases ch
 case' true =>
  refine sT<|Sy.region<|sp J<|sp J<|sp J<|sP (pT gx (f+100))<|Sy.callT (λw hw=>P' w0.inn gc gw gx (f+100) bad7 s7 R b7 [.int .i64 nx.t,vk] nx ⟨vk,rfl,h7⟩ rfl (c7.at w0.inn) p7 om w hw) (λu M hM=>?_)
  obtain ⟨s8,bad8,b8,q8,p8,rfl⟩:=hM
  refine Sy.nil ?_
  have q':=q1.then_ (q2.then_ (q3.then_ (q4.then_ (q5.then_ (q6.then_ (q7.then_ q8))))))
  simp only [Bool.true_and] at q'
  exact Sy.retT0 J (CWS gc gw bad8 s8 R) (λ_ h=>h) (λ_=>⟨s8,bad8,b8,q',p8,rfl⟩)
 obtain ⟨A,n,cp,rfl,k2,k3,k4,k5⟩:=h7
 obtain ⟨t1,ht1⟩:=xE (decide (nx.t=0))
 obtain ⟨t2,ht2⟩:=xE (decide (n=0))
 obtain ⟨ok,hok⟩:=xE ((decide (nx.t=0) && decide (nx.keys.length=0)))
 have hk:ok=(t1 && t2):=by rw [hok,ht1,ht2,k2]
 refine sU<|Sy.region<|sp J<|sp J<|sp J<|sP (pT gx (f+100))<|sP (pT gx (f+100))<|sS (.int .i64 nx.t) (AK (R:=R) i0 Ba J uy3)<|sS (.bool t1) (Quiet.pure (AE .eql _ _ _ .i64 _ _ _ J J J (Aa _ _ _ _ _ ht1.symm)))<|sp J ?_
 cases t1
 case' false =>
  obtain rfl:ok=false:=hk
  refine sN<|sN<|sN<|sN<|sN<|sN<|sN<|sP (.bool false)<|Sy.callT (λw hw=>B2 w0.inn gc gw bad7 false s7 R w hw) (λu M hM=>?_)
 case' true =>
  obtain rfl:ok=t2:=hk
  refine sp J<|sp J<|sP (pT gx (f+100))<|sP (pT gx (f+101))<|sS (.slice A n cp) (AK (R:=R) i1 Ba J FO)<|sP (.int .i64 (n:Int))<|sS (.bool ok) (qeq J J J ht2)<|sP (.bool ok)<|Sy.callT (λw hw=>B2 w0.inn gc gw bad7 ok s7 R w hw) (λu M hM=>?_)
 all_goals
  subst hM
  refine Sy.nil ?_
 ·have q':=(q1.then_ (q2.then_ (q3.then_ (q4.then_ (q5.then_ (q6.then_ (q7.then_ (Wrote.must ok bad7 b7)))))))).le (k':=Dq ⟨pv,hi,ti,rt,mn,rd,false,nx⟩) (by unfold Dq; dsimp only; omega)
  simp only [Bool.true_and] at q'
  rw [hok] at q'
  exact Sy.retT0 J (CWS gc gw (bad7 || !ok) s7 R) (λ_ h=>h) (λ_=>⟨s7,bad7 || !ok,b7,by rw [hok]; exact q',p7,rfl⟩)
 ·have q':=(q1.then_ (q2.then_ (q3.then_ (q4.then_ (q5.then_ (q6.then_ (q7.then_ (Wrote.must false bad7 b7)))))))).le (k':=Dq ⟨pv,hi,ti,rt,mn,rd,false,nx⟩) (by unfold Dq; dsimp only; omega)
  simp only [Bool.true_and] at q'
  exact Sy.retT0 J (CWS gc gw (bad7 || !false) s7 R) (λ_ h=>h) (λ_=>⟨s7,bad7 || !false,b7,by
   have e:GH ⟨pv,hi,ti,rt,mn,rd,false,nx⟩=(decide (rd.length≤256) && false):=by
    unfold GH
    show (_ && (decide (nx.t=0) && decide (nx.keys.length=0)))=_
    rw [← hok]
   rw [e]
   exact q',p7,rfl⟩)
theorem SQ:Opn 42 102 Ds (λh=>h.reward.length+h.next.keys.length):=(UP OB kZ kZ kZ kZ kZ kZ kZ kZ kZ kZ kZ kZ kZ kZ kZ kZ Es GD GD Es Es opn_raw (M_ uy4) SK).as λC cs (a,b,c,d,e,f,g,h) ⟨a0,a1,a2,a3,a4,a5,a6,a7,ec,⟨e0,h0⟩,⟨e1,h1⟩,⟨e2,h2⟩,⟨e3,h3⟩,⟨e4,h4⟩,⟨v5,e5,h5⟩,e6,⟨v7,e7,h7⟩⟩=>by
 obtain rfl:a6=[.bool g]:=e6
 dsimp only at e0 e1 e2 e3 e4 e5 e7 h0 h1 h2 h3 h4 h5 h7
 subst e0 e1 e2 e3 e4 e5 e7 ec
 exact ⟨⟨a,b,c,d,e,f,g,h⟩,⟨v5,v7,rfl,h0,h3,h4,h1,h2,h5,h7⟩,by dsimp only; omega⟩
end Wr
end
section
namespace Cu
open Go.ChangeShapes Go.WideShapes Go.ChangeAt Go.RowKit Go.Deep
theorem words_trod {H:Type} {enc:TypeId×Value→H} {P:Program} {W:World} {b:Nat} {sp:Nat→Bool} {held:Bool} {fuel:Nat} {t q:TypeId} {c0 c1 c2 c3:Value} {x:DataW H×List MemPlace} (ht:P.underlying t=some (.array 4 q)) (hq:P.underlying q=some (.int .u64)) (hcq:P.cellsOf q=1)
  (hf:DataW.trod enc P W b sp held fuel t [c0,c1,c2,c3]=some x):∃ n:Nat,n<K4∧[c0,c1,c2,c3]=fws n:=by
 obtain ⟨y0,y1,y2,y3,m,_,g0,g1,g2,g3⟩:=trod_array4 ht hcq hf
 obtain ⟨z0,e0,_,w0⟩:=DataW.trod_int hq g0
 obtain ⟨z1,e1,_,w1⟩:=DataW.trod_int hq g1
 obtain ⟨z2,e2,_,w2⟩:=DataW.trod_int hq g2
 obtain ⟨z3,e3,_,w3⟩:=DataW.trod_int hq g3
 obtain ⟨a,rfl,ha⟩:=Jb w0
 obtain ⟨b,rfl,hb⟩:=Jb w1
 obtain ⟨c,rfl,hc⟩:=Jb w2
 obtain ⟨e,rfl,he⟩:=Jb w3
 simp only [List.cons.injEq,and_true] at e0 e1 e2 e3
 subst e0 e1 e2 e3
 refine ⟨_,K7 a b c e ha hb hc he,?_⟩
 have h:=Cw a b c e ha hb hc he
 rw [Uj] at h
 injection h with h
 exact congrArg Array.toList h
end Cu
end
section
namespace Wr
open Go.RowKit Sy
theorem Fe {P:Program} {n:Nat} {F:AJ} {L:AA} {w0:Base} {ops:Array Oper} {Q:Exit→Act→World→Prop} {ex:Nat→Bool} {fuel:Nat} {listed:Array Bool} (i:Nat) {oi:Oper} (hi0:ops.toList[i]? = some oi) (h:wpD P w0 n ops Q ex (Bp F oi.dst undef) L fuel (listed.setIfInBounds i true)) (hc:Do .any ops listed i=true:=by kernel_rfl) (hg:Cl ops F oi=some false:=by kernel_rfl) (hd:LC n oi.dst=true:=by kernel_rfl)
  (hQ:∀ c v a w,Q (.panic c) (a.put oi.dst v) w→Q (.panic c) a w:=by exact λ_ _ _ _ h=>h):wpD P w0 n ops Q ex F L (fuel+1) listed:=λa w ha hw =>
 Ao i hi0 hc (λc=>hQ c undef) (λw'=>YieldsG.skip (ha.wanted hg)) (h _ _ (ha.put hd undef) hw)
theorem NI (w:World) (F:AJ) (o:Oper) (x y:Operand) (a b:Nat) (i:Bool) (c d:Nat) (j:Bool) {yt:TypeId} (ho:o.op=.binOp .neq 57 x y yt) (hx:evF F x=Cu.pv a b i) (hy:evF F y=Cu.pv c d j) (ha:a<Cu.K4) (hb:b<Cu.K4) (hc:c<Cu.K4) (hd:d<Cu.K4):(execOp (evF F) o).run Tryz.prog w=.ok (.value (.bool (!Cu.sameB a b i c d j))) w:=by
 have h1:=Cu.run_eqGuard_pv .neq x y a b i c d j w
 have h2:=Cu.run_eql_pv w a b i c d j ha hb hc hd
 have h3:(binOp .neq 57 (Cu.pv a b i) (Cu.pv c d j)).run Tryz.prog w=.ok (.bool (!Cu.sameB a b i c d j)) w:=by
  unfold Cu.pv at h2 ⊢
  rw [run_eql_struct] at h2
  rw [run_neq_struct]
  generalize (Op.equalIn 10000 57 (Value.agg (Cu.pcs a b i)) (Value.agg (Cu.pcs c d j))).run Tryz.prog w=r at h2 ⊢
  revert h2
  cases r <;> simp <;> intros <;> simp_all
 unfold execOp
 simp only [ho,hx,hy,Sem.run_bind,h1,h3,Result.andThen_ok,Sem.run_pure]
structure MPt where
 x:Nat
 y:Nat
 i:Bool
def lPT (p:MPt):List Value:=Cu.fws p.x++(Cu.fws p.y++[Value.bool p.i])
def Pk (_:Rdr) (cs:List Value) (p:MPt):Prop:=cs=lPT p∧p.x<Cu.K4∧p.y<Cu.K4
def Et (p:MPt):Bool:=Cu.rightB p.x p.y p.i && !p.i
def CN (p:MPt):Byt:=Cu.encS (Cu.dec p.x p.y p.i)
theorem CL (p:MPt):(CN p).length=33:=Cu.encS_length _
def mPt:Cu.Pt→MPt
 | none=>⟨0,0,true⟩
 | some (x,y)=>⟨x.val,y.val,false⟩
theorem NM (P:Cu.Pt):Cu.ptv P=.agg (lPT (mPt P)).toArray:=by cases P <;> rfl
theorem MG (P:Cu.Pt):(mPt P).x<Cu.K4∧(mPt P).y<Cu.K4:=by
 cases P with
 | none=>exact ⟨by decide,by decide⟩
 | some p=>exact ⟨Cu.lt4 p.1,Cu.lt4 p.2⟩
def ptP:Ps MPt:=AH (An 33) λb=>AH (BH (!(mPt (Cu.decP b)).i)) λ_=>BF (mPt (Cu.decP b))
theorem Kq (b:Byt):Et (mPt (Cu.decP b))=!(mPt (Cu.decP b)).i:=by
 have hon:=Cu.decP_on b
 unfold Et
 cases hp:Cu.decP b with
 | none=>rfl
 | some p =>
  rw [hp] at hon
  have h:Cu.rightB p.1.val p.2.val false=true:=by
   unfold Cu.rightB
   rw [if_neg dZ]
   simp only [Bool.and_eq_true,decide_eq_true_eq]
   exact ⟨⟨p.1.isLt,p.2.isLt⟩,congrArg Fin.val hon⟩
  show (Cu.rightB p.1.val p.2.val false && !false)=_
  rw [h]
  rfl
theorem Cd (p:MPt):(lPT p).length=9:=rfl
theorem CF (p:MPt):∀ u∈lPT p,u.oneCell'=true:=λu hu=>by
 simp only [lPT,Cu.fws,List.mem_append,List.mem_cons,List.not_mem_nil,or_false] at hu
 rcases hu with ((rfl|rfl|rfl|rfl) | (rfl|rfl|rfl|rfl) | rfl) <;> rfl
theorem I_ (x y:Nat) (i:Bool) (h:Cu.rightB x y i=true):(!Cu.sameB x y i 0 0 true)=!i:=by
 cases i with
 | false=>unfold Cu.sameB; rw [show (false == true)=false from rfl,Bool.and_false,Bool.and_false]
 | true =>
  unfold Cu.rightB at h
  rw [if_pos J,Bool.and_eq_true,decide_eq_true_eq,decide_eq_true_eq] at h
  obtain ⟨rfl,rfl⟩:=h
  rfl
theorem Bv (x:Byt):∀ u∈x.map bv,u.oneCell'=true:=λu hu=>by obtain ⟨y,_,rfl⟩:=List.mem_map.1 hu; rfl
theorem M0:PutC 155 9 Pk Et CN (λ_=>33):=λw0 gc gw gx f bad s R b cs p hx _ hc hb hl w hw=>by
 obtain ⟨rfl,h1,h2⟩:=hx
 obtain ⟨E,hE⟩:=xE (CN p)
 have hEl:E.length=33:=by rw [hE]; exact CL p
 have hEm:(E.map bv).length=33:=by rw [List.length_map,hEl]
 rw [← hE]
 refine Sy.enterT (args:=[ptr gc,pT gx f]) hw Tryz.func155 J kL<|sC<|sp J<|sp J<|sS (Cu.pv p.x p.y p.i) (BQ (R:=R) (cs:=lPT p) hc Ba J J Am)<|sS (.agg (E.map bv).toArray) (qg (λw' _=>by rw [hE]; exact Cu.enc_any w' p.x p.y p.i h1 h2))<|sM 332 ((List.replicate 33 (0:UInt8)).map bv).toArray (λg4=>?_)
 refine Sy.permS List.perm_append_comm<|sw 0 J (E.map bv).toArray (Writes.row 332 (E.map bv) 33 _ _ J kR kR kR hEm kZ (Bv E))<|Sy.permS (M:=CWS gc gw bad s (R++[(g4,332,(E.map bv).toArray)])) (permB.trans (List.Perm.of_eq eqCW))<|sA<|sp J<|sP (.slice (pA g4) 33 33)<|Sy.callT (λw hw=>Kf w0.inn gc gw bad s (R++[(g4,332,(E.map bv).toArray)]) b E _ ((J7 Eh).byt hEl dZ) hb (by rw [hEl]; omega) w hw) (λu M hM=>?_)
 obtain ⟨s1,bad1,b1,q1,q2,rfl⟩:=hM
 rw [hEl] at q1
 refine sG<|Sy.seq<|sC<|sp J<|sS (.bool false) (qg (λw hw=>DD w0.inn gc _ _ (List.mem_cons_self ..) w hw))<|sG<|sU<|Sy.skip<|Sy.then_ ?_
 obtain ⟨b2,hb2⟩:=xE (Cu.rightB p.x p.y p.i)
 have ld:∀ {F:AJ} {L:AA} {o:Oper} {x:Operand},(∀ y∈R,y∈L)→o.op=.load 57 x→evF F x=pT gx f→Quiet Tryz.prog w0.inn F L o (Cu.pv p.x p.y p.i):=λhR ho hx=>BQ (R:=R) (cs:=lPT p) hc hR J ho Am hx
 refine Sy.regionD (λj=>j == 12) kR<|sa 0 J J<|sa 1 J J<|sa 2 J J<|se 3 [4,5,6,7,8,9,10,11,12] rfl (Cu.pv p.x p.y p.i) (ld (λy hy=>Ba y (inA hy)) J J)<|se 4 [5,6,7,8,9,10,11,12] rfl (.bool b2) (qg (λw' _=>by rw [hb2]; exact Cu.right_b w' p.x p.y p.i h1 h2))<|sa 5 J J ?_
 cases b2
 case' false =>
  have ho:Et p=false:=by unfold Et; rw [← hb2]; rfl
  refine Fe 6 J<|Fe 7 J<|Fe 8 J<|Fe 9 J<|Fe 10 J<|sb 11 J (.bool false)<|Sy.soleD 12 J (λQ2 hq2=>?_)
  refine Sy.callT (λw hw=>B2 w0.inn gc gw bad1 false s1 (R++[(g4,332,(E.map bv).toArray)]) w hw) (λu M hM=>?_)
 case' true =>
  have ho:Et p=!p.i:=by unfold Et; rw [← hb2]; rfl
  obtain ⟨b3,hb3⟩:=xE (!p.i)
  refine sa 6 J J<|sa 7 J J<|se 8 [10,11,12] rfl (Cu.pv p.x p.y p.i) (ld (λy hy=>Ba y (inA hy)) J J)<|se 9 [10,11,12] rfl (Cu.pv 0 0 true) (qg (λw' _=>Cu.zero_c w'))<|sv 10 J (.bool b3) (λw'=>by rw [hb3, ← I_ p.x p.y p.i hb2.symm]; exact NI w' _ _ _ _ p.x p.y p.i 0 0 true J J J h1 h2 dZ dZ)<|sb 11 J (.bool b3)<|Sy.soleD 12 J (λQ2 hq2=>?_)
  refine Sy.callT (λw hw=>B2 w0.inn gc gw bad1 b3 s1 (R++[(g4,332,(E.map bv).toArray)]) w hw) (λu M hM=>?_)
 all_goals
  subst hM
  refine hq2 _ _<|sE ?_
 ·have q:=q1.then_ (Wrote.must b3 bad1 b1)
  rw [Bool.true_and,List.append_nil,hb3, ← ho] at q
  exact Sy.retT0 J (CWS gc gw (bad1 || !b3) s1 R) (λ_ h=>GU h) (λ_=>⟨s1,bad1 || !b3,b1,by rw [hb3, ← ho]; exact q,q2,rfl⟩)
 ·have q:=q1.then_ (Wrote.must false bad1 b1)
  rw [Bool.true_and,List.append_nil] at q
  exact Sy.retT0 J (CWS gc gw (bad1 || !false) s1 R) (λ_ h=>GU h) (λ_=>⟨s1,bad1 || !false,b1,by rw [ho]; exact q,q2,rfl⟩)
end Wr
end
end Go.Proofs.YtdbcombmmnihbaaGreat
