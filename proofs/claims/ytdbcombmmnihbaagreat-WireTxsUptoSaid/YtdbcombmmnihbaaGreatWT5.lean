/-
  Texts of ours, put together: WirM, SymP, SymN, WirN, WirO, WirX, WirY, WirZ, WirBA, WirBB, WirXB, WirCA, WirCB, WirCC, WirXC, PLift, WirDA, WirDB, WirDC, WirDD, WirDE, WirXD, WirCD.
-/
import Derived.Test.YtdbcombmmnihbaaGreatWT4
set_option linter.unusedVariables false
set_option linter.unusedSimpArgs false
set_option maxRecDepth 100000
set_option maxHeartbeats 40000000
namespace Go.Proofs.YtdbcombmmnihbaaGreat
section
namespace Wr
open Go.RowKit Sy
def Sb (_:Rdr) (cs:List Value) (n:Nat):Prop:=cs=[.int .u64 (n:Int)]∧n<18446744073709551616
def DC (_:Rdr) (cs:List Value) (x:Byt):Prop:=cs=x.map bv∧x.length=32
def Z32:List Value:=(List.replicate 32 (0:UInt8)).map bv
theorem H3:B4 59 1 [uZ 0] Sb (Bj 8):=λw0 gc gr gx f tx A Z sl s R S hS hA he hl hv w hw=>by
 have item:∀ w,St w0.inn w (CRS gc gr gx tx (A++([Value.int .u64 0]++Z)) sl s.e R)→AL 97 #[ptr gc,pT gx f,.func (.func 98) #[] #[],.func (.func 99) #[] #[]] w (AQ w0.inn (RdT 1 Sb (Bj 8) w0.inn gc gr gx tx A Z s R S)):=λw hw=>by
  refine Sy.enterT (args:=[ptr gc,pT gx f,.func (.func 98) #[] #[],.func (.func 99) #[] #[]]) hw Tryz.func97 J kL<|sC<|sp J<|sS (.bool true) (qg (λw hw=>CL w0.inn gc gr _ _ (List.mem_cons_self ..) w hw))<|sG<|sT<|Sy.region<|sp J<|sp J<|sp J<|sp J<|sP (pT gc 1)<|sS (ptr gr) (qc 0 1 J J BD)<|Sy.callT (λw hw=>N_ w0.inn gr sl s ((gc,134,#[.pointer none,ptr gr,.bool false])::(gx,tx,(A++([Value.int .u64 0]++Z)).toArray)::R) S (λb h=>List.mem_cons_of_mem _ (List.mem_cons_of_mem _ (hS b h))) he hv w (hw.perm permCR)) (λu M hM=>?_)
  obtain ⟨x,s',sl',q1,⟨rfl,q2⟩,q3,q4,q5,rfl⟩:=hM
  refine Sy.permS permCR.symm<|sp J<|sw 1 J (A++([Value.int .u64 (x:Int)]++Z)).toArray (Writes.one f 22 (uZ (x:Int)) _ _ J kR kR kR J J (by rw [List.size_toArray,List.length_append,hA]; exact Nat.lt_add_of_pos_right (Nat.succ_pos _)) (Aq hA))<|Sy.nil ?_
  exact Sy.retT0 J (CRS gc gr gx tx (A++([Value.int .u64 (x:Int)]++Z)) sl' s'.e R) (λ_ h=>h) (λ_=>⟨x,s',sl',[Value.int .u64 (x:Int)],[],q1,rfl,λu hu=>by rw [List.mem_singleton.1 hu]; rfl,⟨rfl,q2⟩,q3,q4,q5,by rw [List.append_nil]⟩)
 refine Sy.enterT (args:=[ptr gc,pT gx f]) hw Tryz.func59 J kL<|Sy.region<|sp J<|sp J<|Sy.callT (λw hw=>item w hw) (λu M hM=>?_)
 refine Sy.nil ?_
 have hM':=hM
 obtain ⟨x,s',sl',cs,N,q1,q2,q3,q4,q5,q6,q7,rfl⟩:=hM'
 exact Sy.retT0 J _ (λ_ h=>h) (λ_=>hM)
theorem DS:Z32.length=32:=rfl
theorem Sz (x:Byt) (h:x.length=32):Z32.length=(x.map bv).length:=by rw [List.length_map,h]; rfl
theorem T' (w0:Base) (gc gr gx f:Nat) (tx:TypeId) (A Z:List Value) (sl:Value) (s:RS) (R S:AA) (hS:∀ b∈S,b∈R) (hA:A.length=f) (he:s.e≤200) (hl:s.rest.length≤70368744177664) (hv:BytR (rdC w0 S) sl s.rest) (w:World) (hw:St w0 w (CRS gc gr gx tx (A++(Z32++Z)) sl s.e R)) :
  AL 139 #[ptr gc,.slice (some ⟨gx,f,none⟩) 32 32] w (AQ w0 (RdT 32 DC (A_ 32) w0 gc gr gx tx A Z s R S)):=by
 refine Sy.enterT (args:=[ptr gc,.slice (some ⟨gx,f,none⟩) 32 32]) hw Tryz.func139 J kL<|sC<|sp J<|sS (.bool true) (qg (λw hw=>CL w0.inn gc gr _ _ (List.mem_cons_self ..) w hw))<|sG<|sT<|Sy.region<|sp J<|sp J<|sp J<|sP (pT gc 1)<|sS (ptr gr) (qc 0 1 J J BD)<|sp J<|sP (.int .i64 32)<|Sy.callT (λw hw=>J_ w0.inn gr sl s ((gc,134,#[.pointer none,ptr gr,.bool false])::(gx,tx,(A++(Z32++Z)).toArray)::R) S (λb h=>List.mem_cons_of_mem _ (List.mem_cons_of_mem _ (hS b h))) 32 dZ he hl hv w (hw.perm permCR)) (λu M hM=>?_)
 obtain ⟨x,s',sl',N,q1,⟨q2,q2'⟩,q3,q4,q5,rfl⟩:=hM
 refine Sy.permS (M:=CRS gc gr gx tx (A++(Z32++Z)) sl' s'.e (R++N)) permCR.symm ?_
 rcases q2' with ⟨rfl,rfl,rfl⟩ | hx
 ·refine sS (.int .i64 0) (Quiet.pure (λw=>M0 w _ _ _ _ gx f 32 J J J)) ?_
  refine Sy.nil ?_
  exact Sy.retT0 J (CRS gc gr gx tx (A++(Z32++Z)) sl' s'.e (R++[])) (λ_ h=>h) (λ_=>⟨List.replicate 32 0,s',sl',Z32,[],q1.as (λr hp=>by have:=(D1 hp).1; cases this),rfl,λu hu=>by obtain ⟨y,_,rfl⟩:=List.mem_map.1 hu; rfl,⟨rfl,rfl⟩,q3,q4,q5,rfl⟩)
 ·have hb:=q2.byt
  obtain ⟨B,n,cp,rfl,h2,h3,h4,h5⟩:=hb
  obtain ⟨gb,ob,rfl,hq⟩:=h5 (by intro e; rw [e] at hx; cases hx)
  obtain rfl:32=n:=om
  refine Sy.writeV kR 1 gx tx _ (A++(x.map bv++Z)).toArray (.int .i64 32) rfl (Sv (R:=N) _ _ 27 27 5 J Ay kR 1 gx f 32 32 tx _ _ J J gb ob 32 cp J x (λj u hj=>.inr (by
   rw [List.getElem?_map] at hj
   cases hxj:x[j]? with
   | none=>rw [hxj] at hj; cases hj
   | some y=>rw [hxj] at hj; cases hj; exact hq j y hxj)) (λb h=>Dh b (List.mem_append_right _ h)) hx J (by rw [List.size_toArray,List.length_append,List.length_append,hA,DS]; omega) (DZ hA (Sz x hx))) ?_
  refine Sy.nil ?_
  exact Sy.retT0 J (CRS gc gr gx tx (A++(x.map bv++Z)) sl' s'.e (R++N)) (λ_ h=>h) (λ_=>⟨x,s',sl',x.map bv,N,q1,by rw [List.length_map,hx],λu hu=>by obtain ⟨y,_,rfl⟩:=List.mem_map.1 hu; rfl,⟨rfl,hx⟩,q3,q4,q5,rfl⟩)
theorem EE:B4 87 32 Z32 DC (A_ 32):=λw0 gc gr gx f tx A Z sl s R S hS hA he hl hv w hw=>by
 refine Sy.enterT (args:=[ptr gc,pT gx f]) hw Tryz.func87 J kL<|Sy.region<|sp J<|sp J<|sp J<|sP (.slice (some ⟨gx,f,none⟩) 32 32)<|Sy.callT (λw hw=>T' w0.inn gc gr gx f tx A Z sl s R S hS hA he hl hv w hw) (λu M hM=>?_)
 refine Sy.nil ?_
 exact Sy.retT0 J _ (λ_ h=>h) (λ_=>hM)
end Wr
end
section
namespace Sy
open Go.RowKit
section
variable {r:Nat→Slc} {n i:Nat} {pre A B C D M N T:AA} {b b':Nat×TypeId×Array Value} {v:Value} {w0:Base} {w:World}
end
section
variable {L M:AA} {w0:Base} {w:World}
theorem flat_perm {ls ms:List AA} (is:List Nat) (hi:is.isPerm (List.range ls.length)=true) (hm:is.map (λi=>ls[i]?)=ms.map some) (hL:L=ls.flatten) (hM:M=ms.flatten):L.Perm M:=by
 rw [hL,hM]
 exact (perm_at is hi hm).flatten
theorem St.parts {ls ms:List AA} (os:List AA) (is:List Nat) (hi:is.isPerm (List.range ls.length)=true) (hm:is.map (λi=>ls[i]?)=(ms++os).map some) (hL:L=ls.flatten) (hM:M=ms.flatten) (hw:St w0 w L):St w0 w M:=by
 have h1:L.Perm (M++os.flatten):=by
  rw [hL,hM, ← List.flatten_append]
  exact (perm_at is hi hm).flatten
 exact (hw.perm h1).less (List.sublist_append_left _ _)
end
section
variable {f:Nat→List Value} {s m k o:Nat} {sp:List Value}
end
section
variable {r:Nat→Slc} {n i:Nat} {pre M R D E:AA} {b:Nat×TypeId×Array Value} {v:Value} {w0:Base} {w:World}
end
end Sy
end
section
namespace Wr
open Go.RowKit Sy
abbrev CRN (gc gr:Nat) (sl:Value) (e:Nat) (R:AA):AA:=(gc,134,#[.pointer none,ptr gr,.bool false])::RQ gr sl e R
theorem JO {c r a b:Nat×TypeId×Array Value} {R:AA}:((c::r::R)++[a]++[b]).Perm (c::b::r::a::R):=by
 have h1:((c::r::R)++[a]++[b]).Perm (b::(a::(c::r::R))):=by
  refine (List.perm_append_comm (l₁:=(c::r::R)++[a]) (l₂:=[b])).trans ?_
  exact List.Perm.cons b (List.perm_append_comm (l₁:=c::r::R) (l₂:=[a]))
 refine h1.trans ?_
 have h2:([b,a,c,r]++R).Perm ([c,b,r,a]++R):=(Sy.perm_at [2,0,3,1] kZ (by rfl)).append_right R
 exact h2
def RdV {α:Type} (k:Nat) (rep:Rdr→List Value→α→Prop) (p:Ps α) (w0:Base) (gc gr:Nat) (s:RS) (R S:AA) (v:Value) (M:AA):Prop :=
 ∃ x s' sl' cs N,After p s x s'∧cs.length=k∧(∀ u∈cs,u.oneCell'=true)∧rep (rdB N) cs x∧v=.agg cs.toArray∧s'.e≤200∧s'.rest.length≤s.rest.length∧BytR (rdC w0 S) sl' s'.rest∧M=CRN gc gr sl' s'.e (R++N)
theorem swap12 {a b:Nat×TypeId×Array Value} {R:AA}:(a::b::R).Perm (b::a::R):=List.Perm.swap b a R
def RowsOk {α:Type} (e:TypeId) (k:Nat) (rep:Rdr→List Value→α→Prop) (r:Slc) (N:AA) (l:List α):Prop :=
 ∃ xs:List (List Value),r.Is e k xs∧xs.length=l.length∧∀ (j:Nat) (x:α),l[j]? = some x→∃ cs,xs[j]? = some cs∧rep (rdB N) cs x
theorem RowsOk.nil {α:Type} {e:TypeId} {k:Nat} {rep:Rdr→List Value→α→Prop} {N:AA}:RowsOk e k rep nilS N ([]:List α):=⟨[],Slc.Is.nil _ _,rfl,λj x h=>by cases h⟩
theorem RowsOk.more {α:Type} {e:TypeId} {k:Nat} {rep:Rdr→List Value→α→Prop} (hm:BI rep) {r:Slc} {N N':AA} {l:List α} (h:RowsOk e k rep r N l) (hN:∀ b∈N,b∈N'):RowsOk e k rep r N' l:=by
 obtain ⟨xs,h1,h2,h3⟩:=h
 refine ⟨xs,h1,h2,λj x hx=>?_⟩
 obtain ⟨cs,q1,q2⟩:=h3 j x hx
 exact ⟨cs,q1,hm (Ac hN) q2⟩
theorem RowsOk.add {α:Type} {e:TypeId} {k:Nat} {rep:Rdr→List Value→α→Prop} {r':Slc} {N:AA} {l:List α} {xs:List (List Value)} {cs:List Value} {x:α} (h2:xs.length=l.length) (h3:∀ (j:Nat) (x:α),l[j]? = some x→∃ cs,xs[j]? = some cs∧rep (rdB N) cs x) (hr:r'.Is e k (xs++[cs])) (hx:rep (rdB N) cs x):RowsOk e k rep r' N (l++[x]):=by
 refine ⟨xs++[cs],hr,by simp [h2],λj y hy=>?_⟩
 rcases Nat.lt_or_ge j l.length with hlt | hge
 ·rw [List.getElem?_append_left hlt] at hy
  obtain ⟨c,q1,q2⟩:=h3 j y hy
  exact ⟨c,by rw [List.getElem?_append_left om]; exact q1,q2⟩
 ·rw [List.getElem?_append_right hge] at hy
  have hj:j - l.length=0:=by
   have:=(List.getElem?_eq_some_iff.1 hy).1
   simp at this; omega
  rw [hj] at hy
  simp at hy
  subst hy
  exact ⟨cs,by rw [List.getElem?_append_right om,show j - xs.length=0 by omega]; rfl,hx⟩
theorem RowsOk.lst {α:Type} {e:TypeId} {k:Nat} {rep:Rdr→List Value→α→Prop} (hm:BI rep) {r:Slc} {N:AA} {l:List α} (h:RowsOk e k rep r N l):LstR (rdB (N++r.bl)) k rep r.v l:=by
 obtain ⟨xs,h1,h2,h3⟩:=h
 rcases h1.row with ⟨rfl,rfl⟩ | ⟨g,cap,sp,rfl,q1,q2,q3⟩
 ·have:l=[]:=by cases l with | nil=>rfl | cons=>cases h2
  subst this
  exact ⟨none,0,0,rfl,rfl,Nat.le_refl _,Nat.zero_le _,λh=>(h J).elim⟩
 ·rw [h2] at q2
  refine ⟨_,_,_,by rw [h2],rfl,q2,q3,λ_=>⟨g,0,rfl,λj x hx=>?_⟩⟩
  obtain ⟨cs,c1,c2⟩:=h3 j x hx
  have hl:=h1.len _ (List.mem_of_getElem? c1)
  refine ⟨cs,hl,h1.one _ (List.mem_of_getElem? c1),hm (Ac λb hb=>List.mem_append_left _ hb) c2,λi u hu=>⟨e,_,List.mem_append_right _ (List.mem_singleton.2 J),?_⟩⟩
  have q:=Kf sp h1.len j cs c1
  have hi:i<k:=by rw [← hl]; exact (List.getElem?_eq_some_iff.1 hu).1
  rw [← q,List.getElem?_take_of_lt hi,List.getElem?_drop] at hu
  rw [Nat.zero_add,List.getElem?_toArray]
  exact hu
structure YL (α:Type) where
 l:List α
 r:Slc
 s:RS
 sl:Value
 N:AA
 x:Option α
theorem apZ {Z:Type} {w0 fz:World} {lp n:Nat} {F:AK} {L:AA} {FA:Z→AK} {LA:Z→AA} (z:Z) (hF:∀ p∈FA z,F.lookup p.1=some p.2) (hL:∀ w,St (rb w0 fz lp) w L→St (rb w0 fz lp) w (LA z)):X (rb w0 fz lp) n (APZ w0 fz lp n FA LA) F L .normal:=λ_ w ha hw=>⟨z,ha.all hF,hL w hw⟩
theorem bpZ {Y:Type} {w0 fz:World} {lp n:Nat} {F:AK} {L:AA} {HR:Y→Prop} {LR:Y→AA} (y:Y) (h:HR y) (hL:∀ w,St (rb w0 fz lp) w L→St (rb w0 fz lp) w (LR y)):X (rb w0 fz lp) n (BPZ w0 fz lp HR LR) F L .normal:=λ_ w _ hw=>⟨y,h,hL w hw⟩
structure InvL {α:Type} (e:TypeId) (k:Nat) (rep:Rdr→List Value→α→Prop) (p:Ps α) (w0:Base) (S:AA) (m:Nat) (s1:RS) (i:Nat) (y:YL α):Prop where
 len:y.l.length=i
 rows:RowsOk e k rep y.r y.N y.l
 yes:y.s.e=0→s1.e=0∧CK p i s1.rest=some (y.l,y.s.rest)
 no:y.s.e≠0→s1.e≠0∨CK p m s1.rest=none
 e:y.s.e≤200
 rest:y.s.rest.length≤s1.rest.length
 byt:BytR (rdC w0 S) y.sl y.s.rest
theorem Eh {α:Type} {p:Ps α} {i:Nat} {s s1 s':RS} {l:List α} {x:α} (h:CK p i s1.rest=some (l,s.rest)) (h0:s.e=0) (hA:After p s x s'):(s'.e=0→CK p (i+1) s1.rest=some (l++[x],s'.rest))∧(s'.e≠0→∀ m,i<m→CK p m s1.rest=none):=by
 refine ⟨λh1=>?_,λh1 m hm=>?_⟩
 ·rw [D2,bind_some h,bind_some (hA.ok h0 h1)]; rfl
 ·refine Ig (i:=i+1) ?_ m hm
  rw [D2,bind_some h]
  cases hp:p s.rest with
  | none=>exact bind_none hp
  | some u=>obtain ⟨y,r⟩:=u; obtain ⟨_,hs⟩:=hA.yes y r h0 hp; rw [hs] at h1; exact (h1 J).elim
abbrev LBL (gc gr gl:Nat) (ts:TypeId) (r:Slc) (e:Nat) (sl:Value) (R N:AA):AA:=[(gc,134,#[.pointer none,ptr gr,.bool false]),(gr,253,#[sl,.int .i64 (e:Int)]),(gl,ts,#[r.v])]++(r.bl++(R++N))
theorem BH {gc gr gl:Nat} {ts:TypeId} {r:Slc} {e:Nat} {sl:Value} {R N:AA}:∀ b∈R,b∈LBL gc gr gl ts r e sl R N:=λb hb=>List.mem_append_right _ (List.mem_append_right _ (List.mem_append_left _ hb))
def Na {α:Type} (k:Nat) (rep:Rdr→List Value→α→Prop) (C:Rdr) (cs:List Value) (l:List α):Prop:=∃ v,cs=[v]∧LstR C k rep v l
theorem LstR.cells {α:Type} {C:Rdr} {k:Nat} {rep:Rdr→List Value→α→Prop} {v:Value} {l:List α} (h:LstR C k rep v l):v.cells=#[v]∧v.oneCell'=true:=by
 obtain ⟨A,n,cp,rfl,_⟩:=h; exact ⟨rfl,rfl⟩
def RdL {α:Type} (k:Nat) (rep:Rdr→List Value→α→Prop) (p:Ps (List α)) (w0:Base) (gc gr:Nat) (s:RS) (R S:AA) (v:Value) (M:AA):Prop :=
 ∃ l s' sl' N,After p s l s'∧LstR (rdB N) k rep v l∧s'.e≤200∧s'.rest.length≤s.rest.length∧BytR (rdC w0 S) sl' s'.rest∧M=CRN gc gr sl' s'.e (R++N)
theorem Hn {c r g:Nat×TypeId×Array Value} {R M:AA}:((c::r::R)++[g]++M).Perm ([c,r,g]++(nilS.bl++((R++M)++[]))) :=
 Sy.flat_perm (ls:=[[c,r],R,[g],M]) (ms:=[[c,r],[g],R,M]) [0,2,1,3] kZ (by rfl) (by simp) (by simp [nilS])
theorem BU {a b c:Nat×TypeId×Array Value} {R:AA}:(a::b::c::R).Perm (a::c::b::R):=List.Perm.cons a (List.Perm.swap c b R)
section
variable {α:Type} {rep:Rdr→List Value→α→Prop} {p:Ps α}
theorem R9 (hm:BI rep) (hp:B4 134 33 (([Value.int .u64 0]++Z32)) rep p) (w0:Base) (gc gr g4 g7:Nat) (sl:Value) (s:RS) (R S:AA) (hS:∀ b∈S,b∈R) (h4:(g4,85,#[ptr gc])∈R) (h7:(g7,265,#[.func (.func 134) #[] #[]])∈R) (he:s.e≤200) (hl:s.rest.length≤70368744177664) (hv:BytR (rdC w0 S) sl s.rest) (u:Value) (w:World) (hw:St w0 w (CRN gc gr sl s.e R)) :
  AL 184 #[u,ptr g7,ptr g4] w (AQ w0 (RdV 33 rep p w0 gc gr s R S)):=by
 refine Sy.enterT (args:=[u,ptr g7,ptr g4]) hw Tryz.func184 J kL<|sC<|sM 98 (([Value.int .u64 0]++Z32)).toArray (λga=>?_)
 refine sA<|sM 98 (([Value.int .u64 0]++Z32)).toArray (λgb=>?_)
 refine Sy.permS (M:=CRS gc gr gb 98 ([]++((([Value.int .u64 0]++Z32))++[])) sl s.e ((ga,98,(([Value.int .u64 0]++Z32)).toArray)::R)) JO<|sA<|sS (.func (.func 134) #[] #[]) (AH (R:=(ga,98,(([Value.int .u64 0]++Z32)).toArray)::R) (Aj (List.mem_cons_of_mem _ h7)) Dh J SU)<|sS (ptr gc) (AH (R:=(ga,98,(([Value.int .u64 0]++Z32)).toArray)::R) (Aj (List.mem_cons_of_mem _ h4)) Dh J CA)<|Sy.callT (λw hw=>hp w0.inn gc gr gb 0 98 [] [] sl s ((ga,98,(([Value.int .u64 0]++Z32)).toArray)::R) S (λb h=>List.mem_cons_of_mem _ (hS b h)) J he hl hv w hw) (λv M hM=>?_)
 obtain ⟨x,s',sl',cs,N,q1,q2,q3,q4,q5,q6,q7,rfl⟩:=hM
 rw [List.append_nil]
 refine sA<|sS (.agg cs.toArray) (Quiet.mid 1 gb 0 33 98 98 cs cs _ _ J kR J NM J kR (by rw [List.drop_zero,List.take_of_length_le om]) om)<|sw 3 J cs.toArray (Writes.row 98 cs 33 _ _ J kR kR kR q2 kZ q3)<|sG<|Sy.ret ?_
 exact Sy.retT1 (CRN gc gr sl' s'.e (R++N)) J (.inl (Sy.Res.cell (ty':=98) ga 3 cs.toArray _ kZ J NM J (by rw [List.size_toArray,q2]; kernel_rfl) rfl)) (λw h=>h.less (((List.Sublist.refl _).cons _ |>.cons_cons _).cons _ |>.cons_cons _)) ⟨x,s',sl',cs,N,q1,q2,q3,q4,rfl,q5,q6,q7,rfl⟩
theorem Lo (w:World) (gr most g4 g7:Nat):AL 223 #[ptr gr,.int .i64 (most:Int),.func (.func 184) #[] #[ptr g7,ptr g4]] w (A0 w (λv M=>∃ a b c,v=.func (.func 250) #[] #[ptr a,ptr b,ptr c]∧M=[(a,132,#[ptr gr]),(b,3,#[.int .i64 (most:Int)]),(c,321,#[.func (.func 184) #[] #[ptr g7,ptr g4]])])):=by
 refine Sy.enter (args:=[ptr gr,.int .i64 (most:Int),.func (.func 184) #[] #[ptr g7,ptr g4]]) Tryz.func223 J kL<|sC<|sM 132 #[ptr gr] (λa=>?_)
 refine sM 3 #[.int .i64 (most:Int)] (λb=>?_)
 refine sM 321 #[.func (.func 184) #[] #[ptr g7,ptr g4]] (λc=>?_)
 refine sP .nilFunc<|sA<|sP (.func (.func 250) #[] #[ptr a,ptr b,ptr c])<|sp J<|sG<|Sy.ret ?_
 exact Sy.retGM _ J (.inl (show _=_ by kernel_rfl)) (λ_ h=>h) ⟨a,b,c,rfl,rfl⟩
noncomputable def Tb:TypeInfo:=(Tryz.prog.info? 98).getD default
theorem Jd:Tryz.prog.info? 98=some Tb:=kZ
def Qo (p:Ps α) (rep:Rdr→List Value→α→Prop) (w0:Base) (S:AA) (m:Nat) (s1:RS) (v:Nat×List Value) (y:YL α):Prop:=∃ x,y.x=some x∧y.l.length=v.1∧RowsOk 98 33 rep y.r y.N y.l∧rep (rdB y.N) v.2 x∧v.2.length=33∧(∀ u∈v.2,u.oneCell'=true)∧v.1<1000000
def MA (rep:Rdr→List Value→α→Prop) (y y':YL α):Prop:=∃ x r',y.x=some x∧RowsOk 98 33 rep r' y.N (y.l++[x])∧y'={ y with l:=y.l++[x],r:=r',x:=none }
theorem OD (hm:BI rep) (hp:B4 134 33 (([Value.int .u64 0]++Z32)) rep p) (w0:Base) (fz:World) (gc gr gl g4 g7 a b c most:Nat) (hmost:most<1000000) (R S:AA) (s0:RS) (sl0:Value) (hS:∀ x∈S,x∈R) (h4:(g4,85,#[ptr gc])∈R) (h7:(g7,265,#[.func (.func 134) #[] #[]])∈R) (ha:(a,132,#[ptr gr])∈R) (hb:(b,3,#[.int .i64 (most:Int)])∈R) (hc:(c,321,#[.func (.func 184) #[] #[ptr g7,ptr g4]])∈R) (he:s0.e≤200) (hl:s0.rest.length≤70368744177664) (hv:BytR (rdC w0 S) sl0 s0.rest) (lp:Nat) (w:World) (hw:St (ib w0.world fz) w (LBL gc gr gl 99 nilS s0.e sl0 R []))
  (hY:∀ (v:Nat×List Value) (y:YL α) (W:World),(Qo p rep w0 S 0 s0 v y)→St (ib w0.world fz) W (LBL gc gr gl 99 y.r y.s.e y.sl R y.N)→YieldAt Fence.wide 7 Tryz.prog lp #[.int .i64 (v.1:Int),.agg v.2.toArray] W (Fb w0.world fz (MA rep y) (λy=>LBL gc gr gl 99 y.r y.s.e y.sl R y.N))) :
  CallsIn Fence.wide 8 Tryz.prog 250 #[.func (.yield lp) #[] #[],ptr a,ptr b,ptr c] w (Iw w0.world fz (λy:YL α=>∃ m s1,After (Dw most) s0 m s1∧s1.rest.length≤s0.rest.length∧y.l.length≤most∧InvL 98 33 rep p w0 S m s1 y.l.length y∧(y.s.e=0→y.l.length=m)) (λy=>LBL gc gr gl 99 y.r y.s.e y.sl R y.N)):=by
 refine Sy.enterI (args:=[.func (.yield lp) #[] #[],ptr a,ptr b,ptr c]) hw Tryz.func250 J kL<|sC<|sS (ptr gr) (AH (R:=R) (Aj ha) BH J BD)<|sS (.int .i64 (most:Int)) (AH (R:=R) (Aj hb) BH J uy3)<|Sy.callT (λw hw=>EH (ib w0.world fz) gr sl0 s0 ((gc,134,#[.pointer none,ptr gr,.bool false])::(gl,99,#[.slice none 0 0])::(R++[])) S (λx h=>List.mem_cons_of_mem _ (List.mem_cons_of_mem _ (List.mem_append_left _ (hS x h)))) most hmost he hv w (hw.perm swap12)) (λu M hM=>?_)
 obtain ⟨m,s1,sl1,hA1,⟨rfl,hm1⟩,hs1e,hs1r,hs1b,rfl⟩:=hM
 refine Sy.permS (M:=LBL gc gr gl 99 nilS s1.e sl1 R []) swap12.symm<|sp J<|sA<|sP (.int .i64 0)<|sG<|Sy.block<|Sy.loopT (Y:=YL α) m (λi y=>[(0,.func (.yield lp) #[] #[]),(1,ptr a),(2,ptr b),(3,ptr c),(5,.int .i64 (m:Int)),(6,.int .i64 (i:Int))]) (λi y=>LBL gc gr gl 99 y.r y.s.e y.sl R y.N) (λi y=>InvL 98 33 rep p w0 S m s1 i y) ⟨[],nilS,s1,sl1,[],none⟩ ⟨rfl,RowsOk.nil,λh=>⟨h,rfl⟩,λh=>.inl h,hs1e,Nat.le_refl _,hs1b⟩ ac6 (λ_ h=>h) (λi y hi hy=>?_)
 obtain ⟨l,r,s,sl,N,xo⟩:=y
 have hylen:l.length=i:=hy.len
 refine Sy.seq<|sC ?_
 obtain ⟨b1,hb1⟩:=xE (decide (i<m))
 refine sp J<|sp J<|sS (.bool b1) (qls J J J hb1)<|sp J ?_
 cases b1
 case' false =>
  have l1:=dN hb1
  obtain rfl:i=m:=om
  refine sN<|sN<|sN<|sP (.bool false)<|sG<|sU<|Sy.exit<|Sy.then_exit<|Sy.then_exit<|Sy.in_exit ?_
  exact Sy.retI J (λv w h=>⟨⟨_,rfl⟩,⟨l,r,s,sl,N,xo⟩,⟨i,s1,hA1,hs1r,by show l.length≤most; omega,by rw [show (⟨l,r,s,sl,N,xo⟩:YL α).l.length=i from hylen]; exact hy,λ_=>hylen⟩,h⟩) (.inr J)
 have l1:=dY hb1
 obtain ⟨b2,hb2⟩:=xE (decide (s.e=0))
 have hse:s.e≤200:=hy.e
 refine sS (ptr gr) (AH (R:=R) (Aj ha) BH J BD)<|sS (.int .i64 (s.e:Int)) (qg (λw hw=>Bc (ib w0.world fz) gr sl s.e [] (List.mem_cons_of_mem _ (List.mem_cons_self ..)) w hw))<|sS (.bool b2) (qeq J J J hb2)<|sP (.bool b2)<|sG ?_
 cases b2
 case' false =>
  have l2:=dN hb2
  refine sU<|Sy.exit<|Sy.then_exit<|Sy.then_exit<|Sy.in_exit ?_
  exact Sy.retI J (λv w h=>⟨⟨_,rfl⟩,⟨l,r,s,sl,N,xo⟩,⟨m,s1,hA1,hs1r,by show l.length≤most; omega,by rw [show (⟨l,r,s,sl,N,xo⟩:YL α).l.length=i from hylen]; exact hy,λh=>(l2 h).elim⟩,h⟩) (.inr J)
 have l2:=dY hb2
 obtain ⟨hs10,hrep⟩:=hy.yes l2
 refine sT<|Sy.skip<|Sy.then_<|Sy.seq<|Sy.block<|sC<|sS (.func (.func 184) #[] #[ptr g7,ptr g4]) (AH (R:=R) (Aj hc) BH J Tu)<|sS (ptr gr) (AH (R:=R) (Aj ha) BH J BD)<|Sy.callT (λw hw=>R9 (rep:=rep) (p:=p) hm hp (ib w0.world fz) gc gr g4 g7 sl s ((gl,99,#[r.v])::(r.bl++(R++N))) S (λx h=>List.mem_cons_of_mem _ (List.mem_append_right _ (List.mem_append_left _ (hS x h)))) (List.mem_cons_of_mem _ (List.mem_append_right _ (List.mem_append_left _ h4))) (List.mem_cons_of_mem _ (List.mem_append_right _ (List.mem_append_left _ h7))) hse (Nat.le_trans (Nat.le_trans hy.rest hs1r) hl) hy.byt (ptr gr) w hw) (λu M hM=>?_)
 obtain ⟨x,s',sl',cs,N1,q1,q2,q3,q4,rfl,q5,q6,q7,rfl⟩:=hM
 obtain ⟨st1,st2⟩:=Eh hrep l2 q1
 refine sM 98 (([Value.int .u64 0]++Z32)).toArray (λgb=>?_)
 refine Sy.permS (M:=(gb,98,(([Value.int .u64 0]++Z32)).toArray)::LBL gc gr gl 99 r s'.e sl' R (N++N1)) ((List.perm_append_comm (l₂:=[(gb,98,(([Value.int .u64 0]++Z32)).toArray)])).trans (List.Perm.cons _ (List.Perm.of_eq (by simp only [List.cons_append,List.append_assoc,List.nil_append]; rfl))))<|sw 0 J cs.toArray (Writes.row 98 cs 33 _ _ J kR kR kR q2 kZ q3)<|Sy.nil<|Sy.then_ ?_
 have hR2:RowsOk 98 33 rep r (N++N1) l:=RowsOk.more (rep:=rep) hm hy.rows (λb h=>List.mem_append_left _ h)
 have hx2:rep (rdB (N++N1)) cs x:=hm (Ac λb h=>List.mem_append_right _ h) q4
 have drop1:∀ {w:World},St (ib w0.world fz) w ((gb,98,cs.toArray)::LBL gc gr gl 99 r s'.e sl' R (N++N1))→St (ib w0.world fz) w (LBL gc gr gl 99 r s'.e sl' R (N++N1)):=λh=>h.less (List.sublist_cons_self _ _)
 obtain ⟨b3,hb3⟩:=xE (decide (s'.e≠0))
 have inl:∀ b∈R,b∈(gb,98,cs.toArray)::LBL gc gr gl 99 r s'.e sl' R (N++N1):=λb h=>List.mem_cons_of_mem _ (BH b h)
 refine Sy.seq ?_
 cases b3
 case' true =>
  have l3:=dY hb3
  refine Sy.region<|sS (ptr gr) (AH (R:=R) (Aj ha) inl J BD)<|sS (.int .i64 (s'.e:Int)) (qg (λw hw=>Bc (ib w0.world fz) gr sl' s'.e [] (List.mem_cons_of_mem _ (List.mem_cons_of_mem _ (List.mem_cons_self ..))) w hw))<|sS (.bool true) (qne J J J hb3)<|sp J<|sN<|sN<|sN<|sN<|sN<|sP (.bool true)<|sG<|sT<|Sy.ret<|Sy.in_ret<|Sy.then_ret<|Sy.then_ret<|Sy.in_ret ?_
  exact Sy.retI J (λv w h=>⟨⟨_,rfl⟩,⟨l,r,s',sl',N++N1,none⟩,⟨m,s1,hA1,hs1r,by show l.length≤most; omega,⟨rfl,hR2,λh=>(l3 h).elim,λ_=>.inr (st2 l3 m l1),q5,Nat.le_trans q6 hy.rest,q7⟩,λh=>(l3 h).elim⟩,drop1 h⟩) (.inl J)
 have l3:s'.e=0:=Decidable.of_not_not (of_decide_eq_false hb3.symm)
 refine Sy.regionI 7 (by rintro ⟨_,_,⟨_,hv⟩,_⟩; cases hv) kR<|sS (ptr gr) (AH (R:=R) (Aj ha) inl rfl BD)<|sS (.int .i64 (s'.e:Int)) (qg (λw hw=>Bc (ib w0.world fz) gr sl' s'.e [] (List.mem_cons_of_mem _ (List.mem_cons_of_mem _ (List.mem_cons_self ..))) w hw))<|sS (.bool false) (qne rfl rfl rfl hb3)<|sp rfl<|sp rfl<|sp rfl<|sS (.agg cs.toArray) (Quiet.mid 0 gb 0 33 98 98 cs cs _ _ rfl kR rfl NM rfl kR (by rw [List.drop_zero,List.take_of_length_le om]) om)<|Sy.nil<|Sy.yieldI (HR:=MA rep ⟨l,r,s',sl',N++N1,some x⟩) (LR:=λy=>LBL gc gr gl 99 y.r y.s.e y.sl R y.N) rfl (by rintro ⟨_,_,⟨_,hv⟩,_⟩; cases hv) kR kR lp #[.int .i64 (i:Int),.agg cs.toArray] kF (λw hw=>hY (i,cs) ⟨l,r,s',sl',N++N1,some x⟩ w ⟨x,rfl,hylen,hR2,hx2,q2,q3,by show i<1000000; omega⟩ (drop1 hw)) (λy' hy'=>?_)
 obtain ⟨x',r',hx',hr',rfl⟩:=hy'
 obtain rfl:x=x':=by injection hx'
 refine sP (.bool false)<|sP (.bool false)<|sG<|sU<|Sy.skip<|Sy.in_<|Sy.then_<|Sy.region<|sp J<|sS (iZ (i+1)) (qad J J J)<|sp J<|Sy.nil ?_
 exact Sy.againT ⟨l++[x],r',s',sl',N++N1,none⟩ l1 ⟨by simp [hylen],hr',λ_=>⟨hs10,st1 l3⟩,λh=>(h l3).elim,q5,Nat.le_trans q6 hy.rest,q7⟩ ac6 (λw h=>h)
theorem Li (hm:BI rep) (hp:B4 134 33 (([Value.int .u64 0]++Z32)) rep p) (w0:Base) (gc gr g4 g7 most:Nat) (hmost:most<1000000) (sl0:Value) (s0:RS) (R S:AA) (hS:∀ x∈S,x∈R) (h4:(g4,85,#[ptr gc])∈R) (h7:(g7,265,#[.func (.func 134) #[] #[]])∈R) (he:s0.e≤200) (hl:s0.rest.length≤70368744177664) (hv:BytR (rdC w0 S) sl0 s0.rest) (w:World) (hw:St w0 w (CRN gc gr sl0 s0.e R)) :
  AL 183 #[ptr gr,.int .i64 (most:Int),.func (.func 184) #[] #[ptr g7,ptr g4]] w (AQ w0 (RdL 33 rep (Cz most p) w0 gc gr s0 R S)):=by
 refine Sy.enterTM (args:=[ptr gr,.int .i64 (most:Int),.func (.func 184) #[] #[ptr g7,ptr g4]]) hw Tryz.func183 J kL<|sC<|sP (.slice none 0 0)<|sA<|sM 99 #[.slice none 0 0] (λgl=>?_)
 refine sG<|Sy.seq<|sC<|sp J<|sp J<|sp J<|Sy.callN kR 223 #[ptr gr,.int .i64 (most:Int),.func (.func 184) #[] #[ptr g7,ptr g4]] kF _ (λw _=>Lo w gr most g4 g7) (λv M hM=>?_)
 obtain ⟨a,b,c,rfl,rfl⟩:=hM
 refine Sy.nil<|Sy.then_<|Sy.block ?_
 obtain ⟨R1,hR1⟩:=xE (R++[(a,132,#[ptr gr]),(b,3,#[.int .i64 (most:Int)]),(c,321,#[.func (.func 184) #[] #[ptr g7,ptr g4]])])
 refine Sy.permC (M:=LBL gc gr gl 99 nilS s0.e sl0 R1 []) (by rw [hR1]; exact Hn) ?_
 have mR:∀ x∈R,x∈R1:=λx hx=>by rw [hR1]; exact List.mem_append_left _ hx
 have ma:(a,132,#[ptr gr])∈R1:=by rw [hR1]; simp
 have mb:(b,3,#[.int .i64 (most:Int)])∈R1:=by rw [hR1]; simp
 have mc:(c,321,#[.func (.func 184) #[] #[ptr g7,ptr g4]])∈R1:=by rw [hR1]; simp
 refine Sy.rangeT (α:=Nat×List Value) (Y:=YL α) (Z:=Nat) 250 #[ptr a,ptr b,ptr c] kR kR (enters_of Tryz.func250 kR J) (λv=>#[.int .i64 (v.1:Int),.agg v.2.toArray]) (λ_=>rfl) dZ
  (Qo p rep w0 S 0 s0) (λ_ y=>LBL gc gr gl 99 y.r y.s.e y.sl R1 y.N) (λ_ _ z=>[(7,ptr gl),(9,ptr z)]) (λv y z=>(z,98,v.2.toArray)::LBL gc gr gl 99 y.r y.s.e y.sl R1 y.N) (λ_ y=>MA rep y) (λy=>LBL gc gr gl 99 y.r y.s.e y.sl R1 y.N)
  (λy:YL α=>∃ m s1,After (Dw most) s0 m s1∧s1.rest.length≤s0.rest.length∧y.l.length≤most∧InvL 98 33 rep p w0 S m s1 y.l.length y∧(y.s.e=0→y.l.length=m)) (λy=>LBL gc gr gl 99 y.r y.s.e y.sl R1 y.N) ?_ ?_ ?_ ?_
 ·exact λlp fz w hw hY=>OD (rep:=rep) (p:=p) hm hp w0 fz gc gr gl g4 g7 a b c most hmost R1 S s0 sl0 (λx h=>mR x (hS x h)) (mR _ h4) (mR _ h7) ma mb mc he hl hv lp w hw hY
 ·rintro lp fz ⟨i,cs⟩ ⟨l,r,s,sl,N,xo⟩ ⟨x,rfl,_,_,_,c1,c2,_⟩
  dsimp only at c1 c2 ⊢
  refine Sy.regionR (by rintro ⟨_,_,h⟩; exact h) kR ⟨_,rfl⟩<|sM 98 (([Value.int .u64 0]++Z32)).toArray (λz=>?_)
  refine Sy.permS (M:=(z,98,(([Value.int .u64 0]++Z32)).toArray)::LBL gc gr gl 99 r s.e sl R1 N) (List.perm_append_comm (l₂:=[(z,98,(([Value.int .u64 0]++Z32)).toArray)]))<|sw 0 J cs.toArray (Writes.row 98 cs 33 _ _ J kR kR kR c1 kZ c2)<|Sy.nil ?_
  exact apZ z ac2 (λ_ h=>h)
 ·rintro lp fz ⟨i,cs⟩ ⟨l,r,s,sl,N,xo⟩ z ⟨x,rfl,hli,⟨xs,x1,x2,x3⟩,hx,c1,c2,hi⟩
  dsimp only at c1 c2 hli x1 x2 x3 hx hi ⊢
  refine Sy.block<|Sy.regionR (by rintro ⟨_,_,h⟩; exact h) kR ⟨_,rfl⟩<|sS r.v (qc 3 0 rfl rfl G_)<|sS (.agg cs.toArray) (Quiet.mid 0 z 0 33 98 98 cs cs _ _ rfl kR rfl NM rfl kR (by rw [List.drop_zero,List.take_of_length_le om]) om)<|Sy.make kR 98 cs.toArray (λg=>.slice (pA g) 1 1) (Makes.one 99 98 _ _ 33 _ cs rfl kR G_ Jd rfl rfl c1 dZ dZ) (λg8=>?_)
  refine Sy.permS (M:=[(z,98,cs.toArray),(gc,134,#[.pointer none,ptr gr,.bool false]),(gr,253,#[sl,.int .i64 (s.e:Int)]),(gl,99,#[r.v]),(g8,98,cs.toArray)]++(r.bl++(R1++N))) (Sy.flat_perm (ls:=[[(z,98,cs.toArray),(gc,134,#[.pointer none,ptr gr,.bool false]),(gr,253,#[sl,.int .i64 (s.e:Int)]),(gl,99,#[r.v])],r.bl++(R1++N),[(g8,98,cs.toArray)]]) (ms:=[[(z,98,cs.toArray),(gc,134,#[.pointer none,ptr gr,.bool false]),(gr,253,#[sl,.int .i64 (s.e:Int)]),(gl,99,#[r.v])],[(g8,98,cs.toArray)],r.bl++(R1++N)]) [0,2,1] kZ (by rfl) (by simp) (by simp))<|Sy.appendR kR 99 98 _ _ 33 40 G_ Jd J J J J dZ _ _ J x1 kR cs c1 c2 4 g8 98 kR kR om (by simp only [maxLen]; omega) (λr' hr'=>?_)
  refine sw 3 J #[r'.v] (Writes.one 0 99 r'.v _ _ J kR kR kR hr'.cells.1 hr'.cells.2 Nat.zero_lt_one kR)<|Sy.setT<|Sy.nil<|Sy.in_ ?_
  exact bpZ ⟨l++[x],r',s,sl,N,none⟩ ⟨x,r',rfl,RowsOk.add (rep:=rep) x2 x3 hr' hx,rfl⟩ (λw h=>Sy.St.parts (ls:=[[(z,98,cs.toArray)],[(gc,134,#[.pointer none,ptr gr,.bool false]),(gr,253,#[sl,.int .i64 (s.e:Int)]),(gl,99,#[r'.v])],[(g8,98,cs.toArray)],r'.bl++(R1++N)]) (ms:=[[(gc,134,#[.pointer none,ptr gr,.bool false]),(gr,253,#[sl,.int .i64 (s.e:Int)]),(gl,99,#[r'.v])],r'.bl++(R1++N)]) [[(z,98,cs.toArray)],[(g8,98,cs.toArray)]] [1,3,0,2] kZ (by rfl) (by simp) (by simp) h)
 ·rintro D fz ⟨l,r,s,sl,N,xo⟩ ⟨m,s1,hA1,hs1,hlm,hI,hdn⟩ hD hD2 hmk h0
  dsimp only at hI hdn hlm ⊢
  have hse:s.e≤200:=hI.e
  have hrest:s.rest.length≤s0.rest.length:=Nat.le_trans hI.rest hs1
  refine Sy.in_<|Sy.then_<|Sy.seq<|sC ?_
  obtain ⟨b1,hb1⟩:=xE (decide (s.e≠0))
  refine sp J<|sS (.int .i64 (s.e:Int)) (qg (λw hw=>Bc (ab w0.world fz D) gr sl s.e [] (List.mem_cons_of_mem _ (List.mem_cons_self ..)) w hw))<|sS (.bool b1) (qne J J J hb1)<|sG ?_
  cases b1
  ·have l1:s.e=0:=Decidable.of_not_not (of_decide_eq_false hb1.symm)
   obtain ⟨z1,z2⟩:=hI.yes l1
   rw [hdn l1] at z2
   refine sU<|Sy.skip<|sB<|sS r.v (qc 2 0 J J G_)<|sp J<|sG<|Sy.ret<|Sy.retTM1 (b0:=w0) (M:=CRN gc gr sl s.e (R++(N++r.bl))) J (.inl (show _=_ by kernel_rfl)) (λw h=>Sy.St.parts (ls:=[[(gc,134,#[.pointer none,ptr gr,.bool false]),(gr,253,#[sl,.int .i64 (s.e:Int)])],[(gl,99,#[r.v])],r.bl,R,[(a,132,#[ptr gr]),(b,3,#[.int .i64 (most:Int)]),(c,321,#[.func (.func 184) #[] #[ptr g7,ptr g4]])],N]) (ms:=[[(gc,134,#[.pointer none,ptr gr,.bool false]),(gr,253,#[sl,.int .i64 (s.e:Int)])],R,N,r.bl]) [[(gl,99,#[r.v])],[(a,132,#[ptr gr]),(b,3,#[.int .i64 (most:Int)]),(c,321,#[.func (.func 184) #[] #[ptr g7,ptr g4]])]] [0,3,5,2,1,4] kZ (by rfl) (by rw [hR1]; simp) (by simp) h) ⟨l,s,sl,N++r.bl,hA1.bind ⟨λh=>(h z1).elim,λy q _ hy=>?_,λ_ hy=>?_⟩,RowsOk.lst (rep:=rep) hm hI.rows,hse,hrest,hI.byt,rfl⟩ hD hD2 hmk h0.out
   ·rw [z2] at hy
    cases hy
    exact ⟨rfl,by rw [← l1]⟩
   ·rw [z2] at hy; cases hy
  ·have l1:=dY hb1
   refine sT<|sC<|sP (.slice none 0 0)<|sG<|Sy.ret<|Sy.then_ret<|Sy.retTM1 (b0:=w0) (M:=CRN gc gr sl s.e (R++[])) J (.inl (show _=_ by kernel_rfl)) (λw h=>Sy.St.parts (ls:=[[(gc,134,#[.pointer none,ptr gr,.bool false]),(gr,253,#[sl,.int .i64 (s.e:Int)])],[(gl,99,#[r.v])],r.bl,R,[(a,132,#[ptr gr]),(b,3,#[.int .i64 (most:Int)]),(c,321,#[.func (.func 184) #[] #[ptr g7,ptr g4]])],N]) (ms:=[[(gc,134,#[.pointer none,ptr gr,.bool false]),(gr,253,#[sl,.int .i64 (s.e:Int)])],R]) [[(gl,99,#[r.v])],r.bl,[(a,132,#[ptr gr]),(b,3,#[.int .i64 (most:Int)]),(c,321,#[.func (.func 184) #[] #[ptr g7,ptr g4]])],N] [0,3,1,2,4,5] kZ (by rfl) (by rw [hR1]; simp) (by simp) h) ⟨[],s,sl,[],hA1.bind ⟨λ_=>l1,λy q h1 hy=>?_,λ_ _=>l1⟩,⟨none,0,0,rfl,rfl,Nat.le_refl _,Nat.zero_le _,λh=>(h J).elim⟩,hse,hrest,hI.byt,rfl⟩ hD hD2 hmk h0.out
   rcases hI.no l1 with h | h
   ·exact (h h1).elim
   ·rw [h] at hy; cases hy
theorem OB (hm:BI rep) (hp:B4 134 33 (([Value.int .u64 0]++Z32)) rep p) (w0:Base) (gc gr gx f most:Nat) (hmost:most<1000000) (tx:TypeId) (A Z:List Value) (sl:Value) (s:RS) (R S:AA) (hS:∀ b∈S,b∈R) (hA:A.length=f) (he:s.e≤200) (hl:s.rest.length≤70368744177664) (hv:BytR (rdC w0 S) sl s.rest) (w:World) (hw:St w0 w (CRS gc gr gx tx (A++([Value.slice none 0 0]++Z)) sl s.e R)) :
  AL 133 #[ptr gc,pT gx f,.int .i64 (most:Int),.func (.func 134) #[] #[]] w (AQ w0 (RdT 1 (Na 33 rep) (Cz most p) w0 gc gr gx tx A Z s R S)):=by
 refine Sy.enterT (args:=[ptr gc,pT gx f,.int .i64 (most:Int),.func (.func 134) #[] #[]]) hw Tryz.func133 J kL<|sC<|sM 85 #[ptr gc] (λg4=>?_)
 refine sM 265 #[.func (.func 134) #[] #[]] (λg7=>?_)
 obtain ⟨R1,hR1⟩:=xE (R++([(g4,85,#[ptr gc])]++[(g7,265,#[.func (.func 134) #[] #[]])]))
 refine Sy.permS (M:=CRS gc gr gx tx (A++([Value.slice none 0 0]++Z)) sl s.e R1) (List.Perm.of_eq (by rw [hR1]; simp)) ?_
 have mR:∀ x∈R,x∈R1:=λx hx=>by rw [hR1]; exact List.mem_append_left _ hx
 have m4:(g4,85,#[ptr gc])∈R1:=by rw [hR1]; simp
 have m7:(g7,265,#[.func (.func 134) #[] #[]])∈R1:=by rw [hR1]; simp
 refine sG<|Sy.seq<|sC<|sS (ptr gc) (AH (R:=R1) (Aj m4) Dh J CA)<|sS (.bool true) (qg (λw hw=>CL w0.inn gc gr _ _ (List.mem_cons_self ..) w hw))<|sG<|sT<|sC<|sp J<|sS (ptr gc) (AH (R:=R1) (Aj m4) Dh J CA)<|sp J<|sP (pT gc 1)<|sS (ptr gr) (qc 0 1 J J BD)<|sp J<|sP (.func (.func 184) #[] #[ptr g7,ptr g4])<|Sy.callT (λw hw=>Li (rep:=rep) (p:=p) hm hp w0.inn gc gr g4 g7 most hmost sl s ((gx,tx,(A++([Value.slice none 0 0]++Z)).toArray)::R1) S (λx h=>List.mem_cons_of_mem _ (mR x (hS x h))) (List.mem_cons_of_mem _ m4) (List.mem_cons_of_mem _ m7) he hl hv w (hw.perm BU)) (λv M hM=>?_)
 obtain ⟨l,s',sl',N,q1,q2,q3,q4,q5,rfl⟩:=hM
 refine Sy.permS (M:=CRS gc gr gx tx (A++([Value.slice none 0 0]++Z)) sl' s'.e (R1++N)) BU<|sp J<|sw 1 J (A++([v]++Z)).toArray (Writes.one f 99 v _ _ J kR kR kR q2.cells.1 q2.cells.2 (by rw [List.size_toArray,List.length_append,hA]; exact Nat.lt_add_of_pos_right (Nat.succ_pos _)) (Aq hA))<|sG<|Sy.ret<|Sy.then_ret ?_
 exact Sy.retT0 J (CRS gc gr gx tx (A++([v]++Z)) sl' s'.e (R++N)) (λw h=>Sy.St.parts (ls:=[[(gc,134,#[.pointer none,ptr gr,.bool false]),(gx,tx,(A++([v]++Z)).toArray),(gr,253,#[sl',.int .i64 (s'.e:Int)])],R,[(g4,85,#[ptr gc])]++[(g7,265,#[.func (.func 134) #[] #[]])],N]) (ms:=[[(gc,134,#[.pointer none,ptr gr,.bool false]),(gx,tx,(A++([v]++Z)).toArray),(gr,253,#[sl',.int .i64 (s'.e:Int)])],R,N]) [[(g4,85,#[ptr gc])]++[(g7,265,#[.func (.func 134) #[] #[]])]] [0,1,3,2] kZ (by rfl) (by rw [hR1]; simp) (by simp) h) (λ_=>⟨l,s',sl',[v],N,q1,rfl,λu hu=>by rw [List.mem_singleton.1 hu]; exact q2.cells.2,⟨v,rfl,q2⟩,q3,q4,q5,rfl⟩)
end
theorem AG {a b:List Value} (ha:∀ u∈a,u.oneCell'=true) (hb:∀ u∈b,u.oneCell'=true):∀ u∈a++b,u.oneCell'=true:=λu hu=>(List.mem_append.1 hu).elim (ha u) (hb u)
theorem N9:B4 134 33 ([Value.int .u64 0]++Z32) Ga S9:=λw0 gc gr gx f tx A Z sl s R S hS hA he hl hv w hw=>by
 refine Sy.enterT (args:=[ptr gc,pT gx f]) hw Tryz.func134 J kL<|sC<|sp J<|sp J<|sp J<|sP (pT gx f)<|Sy.callT (λw hw=>H3 w0.inn gc gr gx f tx A (Z32++Z) sl s R S hS hA he hl hv w hw) (λu M hM=>?_)
 obtain ⟨x1,s1,sl1,cs1,N1,a1,a2,a3,⟨rfl,a4⟩,a5,a6,a7,rfl⟩:=hM
 refine Sy.nil<|Sy.then_<|Sy.region<|sp J<|sp J<|sp J<|sP (pT gx (f+1))<|Sy.callT (λw hw=>EE w0.inn gc gr gx (f+1) tx (A++[uZ (x1:Int)]) Z sl1 s1 (R++N1) S (λb h=>List.mem_append_left _ (hS b h)) (by rw [List.length_append,hA]; rfl) a5 (Nat.le_trans a6 hl) a7 w (by rw [List.append_assoc]; exact hw)) (λu M hM=>?_)
 obtain ⟨x2,s2,sl2,cs2,N2,b1,b2,b3,⟨rfl,b4⟩,b5,b6,b7,rfl⟩:=hM
 refine Sy.nil ?_
 exact Sy.retT0 J (CRS gc gr gx tx (A++(([uZ (x1:Int)]++x2.map bv)++Z)) sl2 s2.e (R++(N1++N2))) (λ_ h=>by simpa only [List.append_assoc] using h) (λ_=>⟨⟨x1,x2⟩,s2,sl2,_,N1++N2,a1.bind (b1.bind (After.ret _ _)),by rw [List.length_append,a2,b2],AG a3 b3,⟨rfl,a4,b4⟩,b5,Nat.le_trans b6 a6,b7,rfl⟩)
theorem Pn:B4 76 2 ([Value.int .u64 0]++[Value.slice none 0 0]) GZ Q7:=λw0 gc gr gx f tx A Z sl s R S hS hA he hl hv w hw=>by
 refine Sy.enterT (args:=[ptr gc,pT gx f]) hw Tryz.func76 J kL<|sC<|sp J<|sp J<|sp J<|sP (pT gx f)<|Sy.callT (λw hw=>H3 w0.inn gc gr gx f tx A ([Value.slice none 0 0]++Z) sl s R S hS hA he hl hv w hw) (λu M hM=>?_)
 obtain ⟨x1,s1,sl1,cs1,N1,a1,a2,a3,⟨rfl,a4⟩,a5,a6,a7,rfl⟩:=hM
 refine Sy.nil<|Sy.then_<|Sy.region<|sp J<|sp J<|sp J<|sP (pT gx (f+1))<|Sy.callT (λw hw=>OB (rep:=Ga) (p:=S9) JZ N9 w0.inn gc gr gx (f+1) 16 dZ tx (A++[uZ (x1:Int)]) Z sl1 s1 (R++N1) S (λb h=>List.mem_append_left _ (hS b h)) (by rw [List.length_append,hA]; rfl) a5 (Nat.le_trans a6 hl) a7 w (by rw [List.append_assoc]; exact hw)) (λu M hM=>?_)
 obtain ⟨x2,s2,sl2,cs2,N2,b1,b2,b3,⟨v,rfl,b4⟩,b5,b6,b7,rfl⟩:=hM
 refine Sy.nil ?_
 exact Sy.retT0 J (CRS gc gr gx tx (A++(([uZ (x1:Int)]++[v])++Z)) sl2 s2.e (R++(N1++N2))) (λ_ h=>by simpa only [List.append_assoc] using h) (λ_=>⟨⟨x1,x2⟩,s2,sl2,_,N1++N2,a1.bind (b1.bind (After.ret _ _)),rfl,AG a3 b3,⟨v,rfl,a4,LstR.le (rep:=Ga) JZ (Ac λb h=>List.mem_append_right _ h) b4⟩,b5,Nat.le_trans b6 a6,b7,rfl⟩)
def RdE {α:Type} (k:Nat) (zc:List Value) (rep:Rdr→List Value→α→Prop) (o:Option α) (u:Value) (M:AA):Prop:=(∃ x cs,o=some x∧u=.tuple #[.agg cs.toArray,.int .i64 0]∧cs.length=k∧rep (rdB M) cs x)∨(o=none∧u=.tuple #[.agg zc.toArray,.int .i64 120]∧M=[])
theorem L_ {α:Type} {p:Ps α} {b:Byt} {x:α} {s':RS} (h:After p ⟨b,0⟩ x s'):(s'.e=0→s'.rest=[]→GG p b=some x)∧(s'.e≠0∨s'.rest≠[]→GG p b=none):=by
 have e:GG p b=match p b with | some (x,[])=>some x | _=>none:=rfl
 refine ⟨λh1 h2=>?_,λh1=>?_⟩
 ·rw [e,show p b=some (x,s'.rest) from h.ok J h1,h2]
 ·rw [e]
  cases hp:p b with
  | none=>rfl
  | some u =>
   obtain ⟨y,r⟩:=u
   obtain ⟨_,hs⟩:=h.yes y r J hp
   rw [hs] at h1
   cases r with
   | nil=>rcases h1 with h1 | h1 <;> exact (h1 J).elim
   | cons=>rfl
theorem UQ {C:Rdr} {cs:List Value} {t:MTx} (h:GZ C cs t):∀ u∈cs,u.oneCell'=true:=by
 obtain ⟨v,rfl,_,h⟩:=h
 intro u hu
 rcases List.mem_cons.1 hu with rfl | hu
 ·rfl
 ·rw [List.mem_singleton.1 hu]; exact h.cells.2
theorem O_ {α:Type} {rep:Rdr→List Value→α→Prop} {p:Ps α} (hm:BI rep) (hp:B4 76 2 (([Value.int .u64 0]++[Value.slice none 0 0])) rep p) (w:World) (v:Value) (b:Byt) (hv:BytR (rdW w) v b) (hl:b.length≤70368744177664) :
  AL 77 #[v,.func (.func 76) #[] #[]] w (A0 w (RdE 2 (([Value.int .u64 0]++[Value.slice none 0 0])) rep (GG p b))):=by
 refine Sy.enter (args:=[v,.func (.func 76) #[] #[]]) Tryz.func77 J kL<|sC<|sM 101 (([Value.int .u64 0]++[Value.slice none 0 0])).toArray (λg4=>?_)
 refine sP (.int .i64 0)<|sA<|sM 101 (([Value.int .u64 0]++[Value.slice none 0 0])).toArray (λg6=>?_)
 refine sM 101 (([Value.int .u64 0]++[Value.slice none 0 0])).toArray (λg7=>?_)
 refine sA<|sp J<|Sy.callN kR 67 #[v] kF _ (λw' hw=>read_any w' v b (hv.at hw) hl) (λu M hM=>?_)
 obtain ⟨gr,sl,N0,hN0,rfl,rfl⟩:=hM
 refine sP (.agg #[.pointer none,ptr gr,.bool false])<|sM 134 #[.pointer none,ptr gr,.bool false] (λgc=>?_)
 refine Sy.permS (M:=CRS gc gr g6 101 ([]++((([Value.int .u64 0]++[Value.slice none 0 0]))++[])) sl 0 ((g4,101,(([Value.int .u64 0]++[Value.slice none 0 0])).toArray)::(g7,101,(([Value.int .u64 0]++[Value.slice none 0 0])).toArray)::N0)) (Sy.flat_perm (ls:=[[(g4,101,(([Value.int .u64 0]++[Value.slice none 0 0])).toArray)],[(g6,101,(([Value.int .u64 0]++[Value.slice none 0 0])).toArray)],[(g7,101,(([Value.int .u64 0]++[Value.slice none 0 0])).toArray)],[(gr,253,#[sl,.int .i64 0])],N0,[(gc,134,#[.pointer none,ptr gr,.bool false])]]) (ms:=[[(gc,134,#[.pointer none,ptr gr,.bool false])],[(g6,101,(([Value.int .u64 0]++[Value.slice none 0 0])).toArray)],[(gr,253,#[sl,.int .i64 0])],[(g4,101,(([Value.int .u64 0]++[Value.slice none 0 0])).toArray)],[(g7,101,(([Value.int .u64 0]++[Value.slice none 0 0])).toArray)],N0]) [5,1,3,0,2,4] kZ (by rfl) (by simp) (by simp))<|sp J<|sA<|sp J<|sp J<|Sy.callT (λw' hw=>hp (Base.of w) gc gr g6 0 101 [] [] sl ⟨b,0⟩ ((g4,101,(([Value.int .u64 0]++[Value.slice none 0 0])).toArray)::(g7,101,(([Value.int .u64 0]++[Value.slice none 0 0])).toArray)::N0) N0 (λx h=>List.mem_cons_of_mem _ (List.mem_cons_of_mem _ h)) J (Nat.zero_le _) hl (hN0.byt.le Hf) w' hw) (λu M hM=>?_)
 obtain ⟨x,s',sl',cs,N,q1,q2,q3,q4,q5,q6,q7,rfl⟩:=hM
 rw [List.append_nil]
 obtain ⟨o1,o2⟩:=L_ q1
 obtain ⟨e,hE⟩:=xE (if s'.e=0∧0<s'.rest.length then 113 else s'.e)
 have hEl:e≤200:=by rw [hE]; split <;> omega
 refine sG<|Sy.seq<|sC ?_
 obtain ⟨b1,hb1⟩:=xE (decide (e≠0))
 refine sp J<|sp J<|sP (pT gc 1)<|sS (ptr gr) (qc 0 1 J J BD)<|sS (.int .i64 (e:Int)) (qg (λw' hw=>by rw [hE]; exact Mt (Base.of w) gr sl' s' N0 q5 q7 (List.mem_cons_of_mem _ (List.mem_cons_of_mem _ (List.mem_cons_self ..))) w' hw))<|sS (.bool b1) (qne J J J hb1)<|sG ?_
 cases b1
 ·have l1:e=0:=Decidable.of_not_not (of_decide_eq_false hb1.symm)
  have l2:s'.e=0∧s'.rest=[]:=by
   by_cases h:s'.e=0∧0<s'.rest.length
   ·rw [if_pos h] at hE; omega
   ·rw [if_neg h] at hE
    exact ⟨by omega,List.eq_nil_of_length_eq_zero om⟩
  refine sU<|Sy.skip<|sB<|sS (.agg cs.toArray) (Quiet.mid 1 g6 0 2 101 101 cs cs _ _ J kR J HJ J kR (by rw [List.drop_zero,List.take_of_length_le om]) om)<|sw 3 J cs.toArray (Writes.row 101 cs 2 _ _ J kR kR kR q2 kZ q3)<|sP (.int .i64 0)<|sG<|Sy.ret ?_
  exact Sy.retGM2 N J (.inl (Sy.Res.cell (ty':=101) g4 3 cs.toArray _ kZ J HJ J (by rw [List.size_toArray,q2]; kernel_rfl) rfl)) (.inl (show _=_ by kernel_rfl)) (λ_ h=>h.less (List.sublist_append_right [(gc,134,#[.pointer none,ptr gr,.bool false]),(g6,101,cs.toArray),(gr,253,#[sl',.int .i64 (s'.e:Int)]),(g4,101,cs.toArray),(g7,101,(([Value.int .u64 0]++[Value.slice none 0 0])).toArray)] (N0++N) |> λh1=>(List.sublist_append_right N0 N).trans h1)) (.inl ⟨x,cs,o1 l2.1 l2.2,rfl,q2,q4⟩)
 ·have l1:=dY hb1
  have l2:s'.e≠0∨s'.rest≠[]:=by
   by_cases h:s'.e=0∧0<s'.rest.length
   ·exact .inr (λe=>by rw [e] at h; exact absurd h.2 dZ)
   ·rw [if_neg h] at hE; exact .inl om
  refine sT<|sC<|sS (.agg (([Value.int .u64 0]++[Value.slice none 0 0])).toArray) (qk 4 0 2 J J HJ)<|sw 3 J (([Value.int .u64 0]++[Value.slice none 0 0])).toArray (wA J)<|sP (.int .i64 120)<|sG<|Sy.ret<|Sy.then_ret ?_
  exact Sy.retGM2 [] rfl (.inl (Sy.Res.cell (ty':=101) g4 3 (([Value.int .u64 0]++[Value.slice none 0 0])).toArray _ kZ J HJ J kZ J)) (.inl (show _=_ by kernel_rfl)) (λ_ h=>h.none) (.inr ⟨o2 l2,rfl,rfl⟩)
theorem Q4 {α:Type} {rep:Rdr→List Value→α→Prop} {p:Ps α} (hm:BI rep) (hone:∀ {C:Rdr} {cs:List Value} {x:α},rep C cs x→∀ u∈cs,u.oneCell'=true) (hp:B4 76 2 (([Value.int .u64 0]++[Value.slice none 0 0])) rep p) (w:World) (v:Value) (b:Byt) (hv:BytR (rdW w) v b) (hl:b.length≤70368744177664) :
  AL 36 #[v] w (A0 w (RdE 2 (([Value.int .u64 0]++[Value.slice none 0 0])) rep (GG p b))):=by
 refine Sy.enter (args:=[v]) Tryz.func36 J kL<|sC<|sM 101 (([Value.int .u64 0]++[Value.slice none 0 0])).toArray (λg2=>?_)
 refine sP (.int .i64 0)<|sA<|sp J<|Sy.callN kR 77 #[v,.func (.func 76) #[] #[]] kF _ (λw' hw=>O_ (rep:=rep) (p:=p) hm hp w' v b (hv.at hw) hl) (λu M hM=>?_)
 rcases hM with ⟨x,cs,o1,rfl,q2,q4⟩ | ⟨o1,rfl,rfl⟩
 ·have q3:∀ u∈cs,u.oneCell'=true:=hone q4
  refine sp J<|sp J<|sw 0 J cs.toArray (Writes.row 101 cs 2 _ _ J kR kR kR q2 kZ q3)<|sp J<|sG<|Sy.ret ?_
  exact Sy.retGM2 M J (.inl (Sy.Res.cell (ty':=101) g2 0 cs.toArray _ kZ J HJ J (by rw [List.size_toArray,q2]; kernel_rfl) rfl)) (.inl (show _=_ by kernel_rfl)) (λ_ h=>h.less (List.sublist_cons_self _ _)) (.inl ⟨x,cs,o1,rfl,q2,q4⟩)
 ·refine sp J<|sp J<|sw 0 J (([Value.int .u64 0]++[Value.slice none 0 0])).toArray (wA J)<|sp J ?_
  refine sG<|Sy.ret ?_
  exact Sy.retGM2 [] rfl (.inl (Sy.Res.cell (ty':=101) g2 0 (([Value.int .u64 0]++[Value.slice none 0 0])).toArray _ kZ J HJ J kZ J)) (.inl (show _=_ by kernel_rfl)) (λ_ h=>h.none) (.inr ⟨o1,rfl,rfl⟩)
end Wr
end
section
namespace Wr
open Go.RowKit Sy
open Go.ChangeShapes Go.WideShapes Go.ChangeAt Go.Deep
theorem Cv {H:Type} (d:DataW H):1≤Rows.uptoBulk d:=by
 cases d with
 | lit l=>cases l <;> simp [Rows.uptoBulk]
 | _=>simp [Rows.uptoBulk]
theorem Kt {H:Type}:∀ a b:List (DataW H),Rows.uptoBulkAll (a++b)=Rows.uptoBulkAll a+Rows.uptoBulkAll b
 | [],b=>by simp [Rows.uptoBulkAll]
 | d::a,b=>by
  have h:=Kt a b
  simp only [List.cons_append,Rows.uptoBulkAll]
  omega
theorem Kq {W:World} {base:Nat} {a:Addr} {n:Nat} {cs:List Value} (h:W.cells? base a n=some cs):∀ (j:Nat) (v:Value),cs[j]? = some v→W.cell? (a.add j)=some v:=λj v hj=>by
 unfold World.cells? at h
 split at h
 ·have hl:=Lib.mapM_length h
  have hjl:j<n:=by
   have:=(List.getElem?_eq_some_iff.1 hj).1
   simp at hl
   omega
  obtain ⟨b,hb,hf⟩:=Lib.mapM_at h j j (by simp [hjl])
  rw [hb] at hj
  injection hj with hj
  rw [hf,hj]
 ·cases h
theorem IC {W:World} {base:Nat} {a:Addr} {n:Nat} {cs:List Value} (h:W.cells? base a n=some cs):cs.length=n:=by
 unfold World.cells? at h
 split at h
 ·have hl:=Lib.mapM_length h
  simpa using hl
 ·cases h
theorem SH {w:World} {a:Addr} {v:Value} (h:w.cell? a=some v):∃ b o,a=⟨b,o,none⟩∧b<w.heap.size:=by
 obtain ⟨b,o,k⟩:=a
 unfold World.cell? at h
 cases k with
 | none =>
  refine ⟨b,o,rfl,?_⟩
  rcases Nat.lt_or_ge b w.heap.size with hl | hl
  ·exact hl
  ·simp [Array.getElem?_eq_none hl] at h
 | some k=>exfalso; cases hw:w.heap[b]? with
  | none=>simp [hw] at h
  | some ob=>cases ob <;> simp [hw] at h
theorem Qm (b o n:Nat):(⟨b,o,none⟩:Addr).add n=⟨b,o+n,none⟩:=by unfold Addr.add; split <;> simp_all
theorem Rj {α H:Type} {n:Nat} {p:Nat→α→Prop} {sz:α→Nat} {D:Nat→DataW H} (h:∀ i,i<n→∃ x,p i x∧sz x<Rows.uptoBulk (D i)):∃ l:List α,l.length=n∧(∀ i x,l[i]? = some x→p i x)∧l.length+(l.map sz).sum≤Rows.uptoBulkAll ((List.range n).map D):=by
 induction n with
 | zero=>exact ⟨[],rfl,λi x h=>(by cases h),Nat.zero_le _⟩
 | succ n ih =>
  obtain ⟨l,h1,h2,h3⟩:=ih λi hi=>h i om
  obtain ⟨x,hx,hs⟩:=h n om
  refine ⟨l++[x],by rw [List.length_append,h1]; rfl,λi y hy=>?_,?_⟩
  ·rcases Nat.lt_or_ge i l.length with hi | hi
   ·rw [List.getElem?_append_left hi] at hy
    exact h2 i y hy
   ·rw [List.getElem?_append_right hi] at hy
    cases hk:i - l.length with
    | zero =>
     rw [hk] at hy
     cases hy
     obtain rfl:i=n:=om
     exact hx
    | succ k=>rw [hk] at hy; cases hy
  ·simp only [List.range_succ,List.map_append,Kt,List.sum_append,List.length_append,List.map_cons,List.map_nil,List.sum_cons,List.sum_nil,List.length_cons,List.length_nil,Rows.uptoBulkAll]
   omega
structure Opn {α:Type} (t:TypeId) (k:Nat) (rep:Rdr→List Value→α→Prop) (sz:α→Nat):Prop where
 go:∀ {H:Type} {enc:TypeId×Value→H} {W:World} {fuel:Nat} {cs:List Value} {x:DataW H×List MemPlace},cs.length=k→DataW.trod enc Tryz.prog W 0 (λ_=>true) true fuel t cs=some x→∃ y,rep (rdW W) cs y∧(∀ u∈cs,u.oneCell'=true)∧sz y<Rows.uptoBulk x.1
theorem Opn.as {α β:Type} {t:TypeId} {k:Nat} {rep:Rdr→List Value→α→Prop} {sz:α→Nat} {rep':Rdr→List Value→β→Prop} {sz':β→Nat} (h:Opn t k rep sz) (hr:∀ C cs x,rep C cs x→∃ y,rep' C cs y∧sz' y≤sz x):Opn t k rep' sz':=⟨λhl hf=>by
 obtain ⟨x,h1,h2,h3⟩:=h.go hl hf
 obtain ⟨y,h4,h5⟩:=hr _ _ _ h1
 exact ⟨y,h4,h2,by omega⟩⟩
def T3 (_:Rdr) (cs:List Value) (n:Nat):Prop:=cs=[.int .u64 (n:Int)]∧n<18446744073709551616
def T2 (_:Rdr) (cs:List Value) (n:Nat):Prop:=cs=[.int .u32 (n:Int)]∧n<4294967296
def Uq (_:Rdr) (cs:List Value) (z:Int):Prop:=cs=[.int .i64 z]
def Us (_:Rdr) (cs:List Value) (b:Bool):Prop:=cs=[.bool b]
def T6 (_:Rdr) (cs:List Value) (u:UInt8):Prop:=cs=[bv u]
def T7 (n:Nat) (_:Rdr) (cs:List Value) (b:Byt):Prop:=cs=b.map bv∧b.length=n
def repT (C:Rdr) (cs:List Value) (b:Byt):Prop:=∃ v,cs=[v]∧BytR C v b
theorem UL {t:TypeId} (ht:Tryz.prog.underlying t=some (.int .u64)):Opn t 1 T3 (λ_=>0):=⟨λhl hf=>by
 obtain ⟨z,rfl,hx,w⟩:=DataW.trod_int ht hf
 have hz:0≤z∧z<18446744073709551616:=by
  simp [Lit.wf,IntKind.bits,IntKind.signed,IntKind.min,IntKind.max] at w
  omega
 refine ⟨z.toNat,⟨by rw [show ((z.toNat:Nat):Int)=z by omega],by omega⟩,λu hu=>by rw [List.mem_singleton.1 hu]; rfl,Cv _⟩⟩
theorem UK {t:TypeId} (ht:Tryz.prog.underlying t=some (.int .u32)):Opn t 1 T2 (λ_=>0):=⟨λhl hf=>by
 obtain ⟨z,rfl,hx,w⟩:=DataW.trod_int ht hf
 have hz:0≤z∧z<4294967296:=by
  simp [Lit.wf,IntKind.bits,IntKind.signed,IntKind.min,IntKind.max] at w
  omega
 refine ⟨z.toNat,⟨by rw [show ((z.toNat:Nat):Int)=z by omega],by omega⟩,λu hu=>by rw [List.mem_singleton.1 hu]; rfl,Cv _⟩⟩
theorem UN {t:TypeId} (ht:Tryz.prog.underlying t=some (.int .u8)):Opn t 1 T6 (λ_=>0):=⟨λhl hf=>by
 obtain ⟨z,rfl,hx,w⟩:=DataW.trod_int ht hf
 have hz:0≤z∧z<256:=by
  simp [Lit.wf,IntKind.bits,IntKind.signed,IntKind.min,IntKind.max] at w
  omega
 refine ⟨UInt8.ofNat z.toNat,?_,λu hu=>by rw [List.mem_singleton.1 hu]; rfl,Cv _⟩
 unfold T6 bv
 rw [UInt8.toNat_ofNat',show ((z.toNat%2 ^ 8:Nat):Int)=z by omega]⟩
theorem PU {t:TypeId} (ht:Tryz.prog.underlying t=some (.int .i64)):Opn t 1 Uq (λ_=>0):=⟨λhl hf=>by
 obtain ⟨z,rfl,hx,w⟩:=DataW.trod_int ht hf
 exact ⟨z,rfl,λu hu=>by rw [List.mem_singleton.1 hu]; rfl,Cv _⟩⟩
theorem PW {t:TypeId} (ht:Tryz.prog.underlying t=some .bool):Opn t 1 Us (λ_=>0):=⟨λhl hf=>by
 obtain ⟨z,rfl,hx⟩:=DataW.trod_bool ht hf
 exact ⟨z,rfl,λu hu=>by rw [List.mem_singleton.1 hu]; rfl,Cv _⟩⟩
theorem UO {t e:TypeId} {n:Nat} (ht:Tryz.prog.underlying t=some (.array n e)) (he:Tryz.prog.underlying e=some (.int .u8)) (hce:Tryz.prog.cellsOf e=1) (hct:Tryz.prog.cellsOf t=n):Opn t n (T7 n) (λ_=>0):=⟨λ{H enc W fuel cs x} hl hf=>by
 cases fuel with
 | zero=>simp [DataW.trod] at hf
 | succ fuel =>
  simp only [DataW.trod,ht,hce,hct,Nat.mul_one] at hf
  rw [if_pos hl] at hf
  ·obtain ⟨xs,hm,hx⟩:=Option.map_eq_some_iff.1 hf
   have hone:∀ i,i<n→∃ u:UInt8,cs[i]? = some (bv u):=by
    intro i hi
    obtain ⟨b,hb,hf⟩:=Lib.mapM_at hm i i (by simp [hi])
    obtain ⟨z,hc,rfl,hw⟩:=DataW.trod_int he hf
    have h1:cs[i]? = some (.int .u8 z):=by
     have:=congrArg (·[0]?) hc
     simpa [List.getElem?_take,List.getElem?_drop] using this
    have hz:0≤z∧z<256:=by
     simp [Lit.wf,IntKind.bits,IntKind.signed,IntKind.min,IntKind.max] at hw
     omega
    refine ⟨UInt8.ofNat z.toNat,?_⟩
    rw [h1]
    unfold bv
    congr 2
    rw [UInt8.toNat_ofNat']
    omega
   have hcs:∃ b:Byt,cs=b.map bv:=by
    refine ⟨cs.map (λv=>match v with | .int _ z=>UInt8.ofNat z.toNat | _=>0),List.ext_getElem? λi=>?_⟩
    by_cases hi:i<n
    ·obtain ⟨u,hu⟩:=hone i hi
     simp [hu,bv]
    ·have:cs.length≤i:=om
     simp [List.getElem?_eq_none this]
   obtain ⟨b,rfl⟩:=hcs
   exact ⟨b,⟨rfl,by simpa using hl⟩,λu hu=>by obtain ⟨w,_,rfl⟩:=List.mem_map.1 hu; rfl,Cv _⟩⟩
theorem KG {α:Type} {t e:TypeId} {k:Nat} {rep:Rdr→List Value→α→Prop} {sz:α→Nat} (ht:Tryz.prog.underlying t=some (.slice e)) (hce:Tryz.prog.cellsOf e=k) (hk:0<k) (h:Opn e k rep sz):Opn t 1 (Na k rep) (λl=>l.length+(l.map sz).sum):=⟨λ{H enc W fuel cs x} hl hf=>by
 rcases open_slice ht hf with ⟨rfl,hx⟩ | ⟨a,len,cap,m,n,D,Pl,rfl,_,hlc,hm,hme,hx,hall⟩
 ·exact ⟨[],⟨_,rfl,none,0,0,rfl,rfl,Nat.le_refl _,Nat.zero_le _,λh=>(h J).elim⟩,λu hu=>by rw [List.mem_singleton.1 hu]; rfl,Cv _⟩
 ·simp only [if_true] at hme
  subst hme
  rw [hce] at hall
  obtain ⟨l,l1,l2,l3⟩:=Rj (α:=α) (n:=len) (sz:=sz) (D:=D) (p:=λi y=>∃ cs',W.cells? 0 (a.add (i*k)) k=some cs'∧rep (rdW W) cs' y∧∀ u∈cs',u.oneCell'=true) (λi hi=>by
   obtain ⟨cs',h1,h2⟩:=hall i om
   obtain ⟨y,q1,q2,q3⟩:=h.go (IC h1) h2
   exact ⟨y,⟨cs',h1,q1,q2⟩,q3⟩)
  refine ⟨l,⟨_,rfl,some a,len,m,rfl,l1,hlc,hm,λhne=>?_⟩,λu hu=>by rw [List.mem_singleton.1 hu]; rfl,?_⟩
  ·have hpos:0<l.length:=List.length_pos_iff.2 hne
   obtain ⟨cs0,c1,c2,c3⟩:=l2 0 l[0] (List.getElem?_eq_getElem hpos)
   have c4:=IC c1
   have hcell:=Kq c1 0 cs0[0] (List.getElem?_eq_getElem om)
   have e0:(a.add (0*k)).add 0=a:=by simp [Addr.add]
   rw [e0] at hcell
   obtain ⟨b,o,rfl,hlt⟩:=SH hcell
   refine ⟨b,o,rfl,λj y hy=>?_⟩
   obtain ⟨cs',d1,d2,d3⟩:=l2 j y hy
   refine ⟨cs',IC d1,d3,d2,λi v hi=>⟨hlt,?_⟩⟩
   have:=Kq d1 i v hi
   rwa [Qm,Qm] at this
  ·subst hx
   simp only [Rows.uptoBulk]
   omega⟩
theorem UM {t e:TypeId} (ht:Tryz.prog.underlying t=some (.slice e)) (he:Tryz.prog.underlying e=some (.int .u8)) (hce:Tryz.prog.cellsOf e=1):Opn t 1 repT (λb=>b.length):=(KG ht hce Nat.zero_lt_one (UN he)).as λC cs l ⟨v,h1,A,n,cp,h2,h3,h4,h5,h6⟩=>⟨l,⟨v,h1,A,n,cp,h2,h3,h4,h5,λhne=>by
 obtain ⟨g,o,e,hq⟩:=h6 hne
 refine ⟨g,o,e,λj u hu=>?_⟩
 obtain ⟨cs',_,_,rfl,q⟩:=hq j u hu
 have:=q 0 (bv u) rfl
 rwa [Nat.mul_one,Nat.add_zero] at this⟩,Nat.le_add_right _ _⟩
theorem TL {α0 α1:Type} {t:TypeId} {f0 f1:Field} {k0 k1:Nat} {r0:Rdr→List Value→α0→Prop} {r1:Rdr→List Value→α1→Prop} {z0:α0→Nat} {z1:α1→Nat} (ht:Tryz.prog.underlying t=some (.struct #[f0,f1])) (c0:Tryz.prog.cellsOf f0.type=k0) (c1:Tryz.prog.cellsOf f1.type=k1) (o0:f0.offset=0) (o1:f1.offset=0+k0)
  (h0:Opn f0.type k0 r0 z0) (h1:Opn f1.type k1 r1 z1):Opn t (k0+(k1)) (λC cs (y:α0×α1)=>∃ a0 a1:List Value,cs=a0++(a1)∧r0 C a0 y.1∧r1 C a1 y.2) (λy=>z0 y.1+z1 y.2):=⟨λ{H enc W fuel cs x} hl hf=>by
 obtain ⟨xs,m,_,hx,_,hn,hg⟩:=DataW.trod_struct ht hf
 match xs,hn with
 | [y0,y1],_ =>
  have g0:DataW.trod enc Tryz.prog W 0 (λ_=>true) true m f0.type ((cs.drop f0.offset).take (Tryz.prog.cellsOf f0.type))=some y0:=hg 0 f0 J
  rw [o0,c0] at g0
  obtain ⟨v0,p0,q0,s0⟩:=h0.go (by rw [List.length_take,List.length_drop]; omega) g0
  have g1:DataW.trod enc Tryz.prog W 0 (λ_=>true) true m f1.type ((cs.drop f1.offset).take (Tryz.prog.cellsOf f1.type))=some y1:=hg 1 f1 J
  rw [o1,c1] at g1
  obtain ⟨v1,p1,q1,s1⟩:=h1.go (by rw [List.length_take,List.length_drop]; omega) g1
  have e0:cs.drop (0)=(cs.drop (0)).take k0++cs.drop (0+k0):=by have q:=(List.take_append_drop k0 (cs.drop (0))).symm; rwa [List.drop_drop] at q
  have e1:cs.drop (0+k0)=(cs.drop (0+k0)).take k1:=(List.take_of_length_le (by rw [List.length_drop]; omega)).symm
  have e:cs=(cs.drop (0)).take k0++((cs.drop (0+k0)).take k1):=(List.drop_zero (l:=cs)).symm.trans (e0.trans (congrArg ((cs.drop (0)).take k0++·) (e1)))
  refine ⟨(v0,v1),⟨_,_,e,p0,p1⟩,λu hu=>by rw [e] at hu; exact (AG q0 q1) u hu,?_⟩
  subst hx
  simp only [Rows.uptoBulk,List.map_cons,List.map_nil,Rows.uptoBulkAll]
  omega⟩
theorem JS {α0 α1 α2:Type} {t:TypeId} {f0 f1 f2:Field} {k0 k1 k2:Nat} {r0:Rdr→List Value→α0→Prop} {r1:Rdr→List Value→α1→Prop} {r2:Rdr→List Value→α2→Prop} {z0:α0→Nat} {z1:α1→Nat} {z2:α2→Nat} (ht:Tryz.prog.underlying t=some (.struct #[f0,f1,f2])) (c0:Tryz.prog.cellsOf f0.type=k0) (c1:Tryz.prog.cellsOf f1.type=k1) (c2:Tryz.prog.cellsOf f2.type=k2) (o0:f0.offset=0) (o1:f1.offset=0+k0) (o2:f2.offset=0+k0+k1)
  (h0:Opn f0.type k0 r0 z0) (h1:Opn f1.type k1 r1 z1) (h2:Opn f2.type k2 r2 z2):Opn t (k0+(k1+(k2))) (λC cs (y:α0×α1×α2)=>∃ a0 a1 a2:List Value,cs=a0++(a1++(a2))∧r0 C a0 y.1∧r1 C a1 y.2.1∧r2 C a2 y.2.2) (λy=>z0 y.1+z1 y.2.1+z2 y.2.2):=⟨λ{H enc W fuel cs x} hl hf=>by
 obtain ⟨xs,m,_,hx,_,hn,hg⟩:=DataW.trod_struct ht hf
 match xs,hn with
 | [y0,y1,y2],_ =>
  have g0:DataW.trod enc Tryz.prog W 0 (λ_=>true) true m f0.type ((cs.drop f0.offset).take (Tryz.prog.cellsOf f0.type))=some y0:=hg 0 f0 J
  rw [o0,c0] at g0
  obtain ⟨v0,p0,q0,s0⟩:=h0.go (by rw [List.length_take,List.length_drop]; omega) g0
  have g1:DataW.trod enc Tryz.prog W 0 (λ_=>true) true m f1.type ((cs.drop f1.offset).take (Tryz.prog.cellsOf f1.type))=some y1:=hg 1 f1 J
  rw [o1,c1] at g1
  obtain ⟨v1,p1,q1,s1⟩:=h1.go (by rw [List.length_take,List.length_drop]; omega) g1
  have g2:DataW.trod enc Tryz.prog W 0 (λ_=>true) true m f2.type ((cs.drop f2.offset).take (Tryz.prog.cellsOf f2.type))=some y2:=hg 2 f2 J
  rw [o2,c2] at g2
  obtain ⟨v2,p2,q2,s2⟩:=h2.go (by rw [List.length_take,List.length_drop]; omega) g2
  have e0:cs.drop (0)=(cs.drop (0)).take k0++cs.drop (0+k0):=by have q:=(List.take_append_drop k0 (cs.drop (0))).symm; rwa [List.drop_drop] at q
  have e1:cs.drop (0+k0)=(cs.drop (0+k0)).take k1++cs.drop (0+k0+k1):=by have q:=(List.take_append_drop k1 (cs.drop (0+k0))).symm; rwa [List.drop_drop] at q
  have e2:cs.drop (0+k0+k1)=(cs.drop (0+k0+k1)).take k2:=(List.take_of_length_le (by rw [List.length_drop]; omega)).symm
  have e:cs=(cs.drop (0)).take k0++((cs.drop (0+k0)).take k1++((cs.drop (0+k0+k1)).take k2)):=(List.drop_zero (l:=cs)).symm.trans (e0.trans (congrArg ((cs.drop (0)).take k0++·) (e1.trans (congrArg ((cs.drop (0+k0)).take k1++·) (e2)))))
  refine ⟨(v0,v1,v2),⟨_,_,_,e,p0,p1,p2⟩,λu hu=>by rw [e] at hu; exact (AG q0 (AG q1 q2)) u hu,?_⟩
  subst hx
  simp only [Rows.uptoBulk,List.map_cons,List.map_nil,Rows.uptoBulkAll]
  omega⟩
theorem TK {α0 α1 α2 α3 α4:Type} {t:TypeId} {f0 f1 f2 f3 f4:Field} {k0 k1 k2 k3 k4:Nat} {r0:Rdr→List Value→α0→Prop} {r1:Rdr→List Value→α1→Prop} {r2:Rdr→List Value→α2→Prop} {r3:Rdr→List Value→α3→Prop} {r4:Rdr→List Value→α4→Prop} {z0:α0→Nat} {z1:α1→Nat} {z2:α2→Nat} {z3:α3→Nat} {z4:α4→Nat} (ht:Tryz.prog.underlying t=some (.struct #[f0,f1,f2,f3,f4])) (c0:Tryz.prog.cellsOf f0.type=k0) (c1:Tryz.prog.cellsOf f1.type=k1) (c2:Tryz.prog.cellsOf f2.type=k2) (c3:Tryz.prog.cellsOf f3.type=k3) (c4:Tryz.prog.cellsOf f4.type=k4) (o0:f0.offset=0) (o1:f1.offset=0+k0) (o2:f2.offset=0+k0+k1) (o3:f3.offset=0+k0+k1+k2) (o4:f4.offset=0+k0+k1+k2+k3)
  (h0:Opn f0.type k0 r0 z0) (h1:Opn f1.type k1 r1 z1) (h2:Opn f2.type k2 r2 z2) (h3:Opn f3.type k3 r3 z3) (h4:Opn f4.type k4 r4 z4):Opn t (k0+(k1+(k2+(k3+(k4))))) (λC cs (y:α0×α1×α2×α3×α4)=>∃ a0 a1 a2 a3 a4:List Value,cs=a0++(a1++(a2++(a3++(a4))))∧r0 C a0 y.1∧r1 C a1 y.2.1∧r2 C a2 y.2.2.1∧r3 C a3 y.2.2.2.1∧r4 C a4 y.2.2.2.2) (λy=>z0 y.1+z1 y.2.1+z2 y.2.2.1+z3 y.2.2.2.1+z4 y.2.2.2.2):=⟨λ{H enc W fuel cs x} hl hf=>by
 obtain ⟨xs,m,_,hx,_,hn,hg⟩:=DataW.trod_struct ht hf
 match xs,hn with
 | [y0,y1,y2,y3,y4],_ =>
  have g0:DataW.trod enc Tryz.prog W 0 (λ_=>true) true m f0.type ((cs.drop f0.offset).take (Tryz.prog.cellsOf f0.type))=some y0:=hg 0 f0 J
  rw [o0,c0] at g0
  obtain ⟨v0,p0,q0,s0⟩:=h0.go (by rw [List.length_take,List.length_drop]; omega) g0
  have g1:DataW.trod enc Tryz.prog W 0 (λ_=>true) true m f1.type ((cs.drop f1.offset).take (Tryz.prog.cellsOf f1.type))=some y1:=hg 1 f1 J
  rw [o1,c1] at g1
  obtain ⟨v1,p1,q1,s1⟩:=h1.go (by rw [List.length_take,List.length_drop]; omega) g1
  have g2:DataW.trod enc Tryz.prog W 0 (λ_=>true) true m f2.type ((cs.drop f2.offset).take (Tryz.prog.cellsOf f2.type))=some y2:=hg 2 f2 J
  rw [o2,c2] at g2
  obtain ⟨v2,p2,q2,s2⟩:=h2.go (by rw [List.length_take,List.length_drop]; omega) g2
  have g3:DataW.trod enc Tryz.prog W 0 (λ_=>true) true m f3.type ((cs.drop f3.offset).take (Tryz.prog.cellsOf f3.type))=some y3:=hg 3 f3 J
  rw [o3,c3] at g3
  obtain ⟨v3,p3,q3,s3⟩:=h3.go (by rw [List.length_take,List.length_drop]; omega) g3
  have g4:DataW.trod enc Tryz.prog W 0 (λ_=>true) true m f4.type ((cs.drop f4.offset).take (Tryz.prog.cellsOf f4.type))=some y4:=hg 4 f4 J
  rw [o4,c4] at g4
  obtain ⟨v4,p4,q4,s4⟩:=h4.go (by rw [List.length_take,List.length_drop]; omega) g4
  have e0:cs.drop (0)=(cs.drop (0)).take k0++cs.drop (0+k0):=by have q:=(List.take_append_drop k0 (cs.drop (0))).symm; rwa [List.drop_drop] at q
  have e1:cs.drop (0+k0)=(cs.drop (0+k0)).take k1++cs.drop (0+k0+k1):=by have q:=(List.take_append_drop k1 (cs.drop (0+k0))).symm; rwa [List.drop_drop] at q
  have e2:cs.drop (0+k0+k1)=(cs.drop (0+k0+k1)).take k2++cs.drop (0+k0+k1+k2):=by have q:=(List.take_append_drop k2 (cs.drop (0+k0+k1))).symm; rwa [List.drop_drop] at q
  have e3:cs.drop (0+k0+k1+k2)=(cs.drop (0+k0+k1+k2)).take k3++cs.drop (0+k0+k1+k2+k3):=by have q:=(List.take_append_drop k3 (cs.drop (0+k0+k1+k2))).symm; rwa [List.drop_drop] at q
  have e4:cs.drop (0+k0+k1+k2+k3)=(cs.drop (0+k0+k1+k2+k3)).take k4:=(List.take_of_length_le (by rw [List.length_drop]; omega)).symm
  have e:cs=(cs.drop (0)).take k0++((cs.drop (0+k0)).take k1++((cs.drop (0+k0+k1)).take k2++((cs.drop (0+k0+k1+k2)).take k3++((cs.drop (0+k0+k1+k2+k3)).take k4)))):=(List.drop_zero (l:=cs)).symm.trans (e0.trans (congrArg ((cs.drop (0)).take k0++·) (e1.trans (congrArg ((cs.drop (0+k0)).take k1++·) (e2.trans (congrArg ((cs.drop (0+k0+k1)).take k2++·) (e3.trans (congrArg ((cs.drop (0+k0+k1+k2)).take k3++·) (e4)))))))))
  refine ⟨(v0,v1,v2,v3,v4),⟨_,_,_,_,_,e,p0,p1,p2,p3,p4⟩,λu hu=>by rw [e] at hu; exact (AG q0 (AG q1 (AG q2 (AG q3 q4)))) u hu,?_⟩
  subst hx
  simp only [Rows.uptoBulk,List.map_cons,List.map_nil,Rows.uptoBulkAll]
  omega⟩
theorem PS {α0 α1 α2 α3 α4 α5:Type} {t:TypeId} {f0 f1 f2 f3 f4 f5:Field} {k0 k1 k2 k3 k4 k5:Nat} {r0:Rdr→List Value→α0→Prop} {r1:Rdr→List Value→α1→Prop} {r2:Rdr→List Value→α2→Prop} {r3:Rdr→List Value→α3→Prop} {r4:Rdr→List Value→α4→Prop} {r5:Rdr→List Value→α5→Prop} {z0:α0→Nat} {z1:α1→Nat} {z2:α2→Nat} {z3:α3→Nat} {z4:α4→Nat} {z5:α5→Nat} (ht:Tryz.prog.underlying t=some (.struct #[f0,f1,f2,f3,f4,f5])) (c0:Tryz.prog.cellsOf f0.type=k0) (c1:Tryz.prog.cellsOf f1.type=k1) (c2:Tryz.prog.cellsOf f2.type=k2) (c3:Tryz.prog.cellsOf f3.type=k3) (c4:Tryz.prog.cellsOf f4.type=k4) (c5:Tryz.prog.cellsOf f5.type=k5) (o0:f0.offset=0) (o1:f1.offset=0+k0) (o2:f2.offset=0+k0+k1) (o3:f3.offset=0+k0+k1+k2) (o4:f4.offset=0+k0+k1+k2+k3) (o5:f5.offset=0+k0+k1+k2+k3+k4)
  (h0:Opn f0.type k0 r0 z0) (h1:Opn f1.type k1 r1 z1) (h2:Opn f2.type k2 r2 z2) (h3:Opn f3.type k3 r3 z3) (h4:Opn f4.type k4 r4 z4) (h5:Opn f5.type k5 r5 z5):Opn t (k0+(k1+(k2+(k3+(k4+(k5)))))) (λC cs (y:α0×α1×α2×α3×α4×α5)=>∃ a0 a1 a2 a3 a4 a5:List Value,cs=a0++(a1++(a2++(a3++(a4++(a5)))))∧r0 C a0 y.1∧r1 C a1 y.2.1∧r2 C a2 y.2.2.1∧r3 C a3 y.2.2.2.1∧r4 C a4 y.2.2.2.2.1∧r5 C a5 y.2.2.2.2.2) (λy=>z0 y.1+z1 y.2.1+z2 y.2.2.1+z3 y.2.2.2.1+z4 y.2.2.2.2.1+z5 y.2.2.2.2.2):=⟨λ{H enc W fuel cs x} hl hf=>by
 obtain ⟨xs,m,_,hx,_,hn,hg⟩:=DataW.trod_struct ht hf
 match xs,hn with
 | [y0,y1,y2,y3,y4,y5],_ =>
  have g0:DataW.trod enc Tryz.prog W 0 (λ_=>true) true m f0.type ((cs.drop f0.offset).take (Tryz.prog.cellsOf f0.type))=some y0:=hg 0 f0 J
  rw [o0,c0] at g0
  obtain ⟨v0,p0,q0,s0⟩:=h0.go (by rw [List.length_take,List.length_drop]; omega) g0
  have g1:DataW.trod enc Tryz.prog W 0 (λ_=>true) true m f1.type ((cs.drop f1.offset).take (Tryz.prog.cellsOf f1.type))=some y1:=hg 1 f1 J
  rw [o1,c1] at g1
  obtain ⟨v1,p1,q1,s1⟩:=h1.go (by rw [List.length_take,List.length_drop]; omega) g1
  have g2:DataW.trod enc Tryz.prog W 0 (λ_=>true) true m f2.type ((cs.drop f2.offset).take (Tryz.prog.cellsOf f2.type))=some y2:=hg 2 f2 J
  rw [o2,c2] at g2
  obtain ⟨v2,p2,q2,s2⟩:=h2.go (by rw [List.length_take,List.length_drop]; omega) g2
  have g3:DataW.trod enc Tryz.prog W 0 (λ_=>true) true m f3.type ((cs.drop f3.offset).take (Tryz.prog.cellsOf f3.type))=some y3:=hg 3 f3 J
  rw [o3,c3] at g3
  obtain ⟨v3,p3,q3,s3⟩:=h3.go (by rw [List.length_take,List.length_drop]; omega) g3
  have g4:DataW.trod enc Tryz.prog W 0 (λ_=>true) true m f4.type ((cs.drop f4.offset).take (Tryz.prog.cellsOf f4.type))=some y4:=hg 4 f4 J
  rw [o4,c4] at g4
  obtain ⟨v4,p4,q4,s4⟩:=h4.go (by rw [List.length_take,List.length_drop]; omega) g4
  have g5:DataW.trod enc Tryz.prog W 0 (λ_=>true) true m f5.type ((cs.drop f5.offset).take (Tryz.prog.cellsOf f5.type))=some y5:=hg 5 f5 J
  rw [o5,c5] at g5
  obtain ⟨v5,p5,q5,s5⟩:=h5.go (by rw [List.length_take,List.length_drop]; omega) g5
  have e0:cs.drop (0)=(cs.drop (0)).take k0++cs.drop (0+k0):=by have q:=(List.take_append_drop k0 (cs.drop (0))).symm; rwa [List.drop_drop] at q
  have e1:cs.drop (0+k0)=(cs.drop (0+k0)).take k1++cs.drop (0+k0+k1):=by have q:=(List.take_append_drop k1 (cs.drop (0+k0))).symm; rwa [List.drop_drop] at q
  have e2:cs.drop (0+k0+k1)=(cs.drop (0+k0+k1)).take k2++cs.drop (0+k0+k1+k2):=by have q:=(List.take_append_drop k2 (cs.drop (0+k0+k1))).symm; rwa [List.drop_drop] at q
  have e3:cs.drop (0+k0+k1+k2)=(cs.drop (0+k0+k1+k2)).take k3++cs.drop (0+k0+k1+k2+k3):=by have q:=(List.take_append_drop k3 (cs.drop (0+k0+k1+k2))).symm; rwa [List.drop_drop] at q
  have e4:cs.drop (0+k0+k1+k2+k3)=(cs.drop (0+k0+k1+k2+k3)).take k4++cs.drop (0+k0+k1+k2+k3+k4):=by have q:=(List.take_append_drop k4 (cs.drop (0+k0+k1+k2+k3))).symm; rwa [List.drop_drop] at q
  have e5:cs.drop (0+k0+k1+k2+k3+k4)=(cs.drop (0+k0+k1+k2+k3+k4)).take k5:=(List.take_of_length_le (by rw [List.length_drop]; omega)).symm
  have e:cs=(cs.drop (0)).take k0++((cs.drop (0+k0)).take k1++((cs.drop (0+k0+k1)).take k2++((cs.drop (0+k0+k1+k2)).take k3++((cs.drop (0+k0+k1+k2+k3)).take k4++((cs.drop (0+k0+k1+k2+k3+k4)).take k5))))):=(List.drop_zero (l:=cs)).symm.trans (e0.trans (congrArg ((cs.drop (0)).take k0++·) (e1.trans (congrArg ((cs.drop (0+k0)).take k1++·) (e2.trans (congrArg ((cs.drop (0+k0+k1)).take k2++·) (e3.trans (congrArg ((cs.drop (0+k0+k1+k2)).take k3++·) (e4.trans (congrArg ((cs.drop (0+k0+k1+k2+k3)).take k4++·) (e5)))))))))))
  refine ⟨(v0,v1,v2,v3,v4,v5),⟨_,_,_,_,_,_,e,p0,p1,p2,p3,p4,p5⟩,λu hu=>by rw [e] at hu; exact (AG q0 (AG q1 (AG q2 (AG q3 (AG q4 q5))))) u hu,?_⟩
  subst hx
  simp only [Rows.uptoBulk,List.map_cons,List.map_nil,Rows.uptoBulkAll]
  omega⟩
theorem TJ {α0 α1 α2 α3 α4 α5 α6:Type} {t:TypeId} {f0 f1 f2 f3 f4 f5 f6:Field} {k0 k1 k2 k3 k4 k5 k6:Nat} {r0:Rdr→List Value→α0→Prop} {r1:Rdr→List Value→α1→Prop} {r2:Rdr→List Value→α2→Prop} {r3:Rdr→List Value→α3→Prop} {r4:Rdr→List Value→α4→Prop} {r5:Rdr→List Value→α5→Prop} {r6:Rdr→List Value→α6→Prop} {z0:α0→Nat} {z1:α1→Nat} {z2:α2→Nat} {z3:α3→Nat} {z4:α4→Nat} {z5:α5→Nat} {z6:α6→Nat} (ht:Tryz.prog.underlying t=some (.struct #[f0,f1,f2,f3,f4,f5,f6])) (c0:Tryz.prog.cellsOf f0.type=k0) (c1:Tryz.prog.cellsOf f1.type=k1) (c2:Tryz.prog.cellsOf f2.type=k2) (c3:Tryz.prog.cellsOf f3.type=k3) (c4:Tryz.prog.cellsOf f4.type=k4) (c5:Tryz.prog.cellsOf f5.type=k5) (c6:Tryz.prog.cellsOf f6.type=k6) (o0:f0.offset=0) (o1:f1.offset=0+k0) (o2:f2.offset=0+k0+k1) (o3:f3.offset=0+k0+k1+k2) (o4:f4.offset=0+k0+k1+k2+k3) (o5:f5.offset=0+k0+k1+k2+k3+k4) (o6:f6.offset=0+k0+k1+k2+k3+k4+k5)
  (h0:Opn f0.type k0 r0 z0) (h1:Opn f1.type k1 r1 z1) (h2:Opn f2.type k2 r2 z2) (h3:Opn f3.type k3 r3 z3) (h4:Opn f4.type k4 r4 z4) (h5:Opn f5.type k5 r5 z5) (h6:Opn f6.type k6 r6 z6):Opn t (k0+(k1+(k2+(k3+(k4+(k5+(k6))))))) (λC cs (y:α0×α1×α2×α3×α4×α5×α6)=>∃ a0 a1 a2 a3 a4 a5 a6:List Value,cs=a0++(a1++(a2++(a3++(a4++(a5++(a6))))))∧r0 C a0 y.1∧r1 C a1 y.2.1∧r2 C a2 y.2.2.1∧r3 C a3 y.2.2.2.1∧r4 C a4 y.2.2.2.2.1∧r5 C a5 y.2.2.2.2.2.1∧r6 C a6 y.2.2.2.2.2.2) (λy=>z0 y.1+z1 y.2.1+z2 y.2.2.1+z3 y.2.2.2.1+z4 y.2.2.2.2.1+z5 y.2.2.2.2.2.1+z6 y.2.2.2.2.2.2):=⟨λ{H enc W fuel cs x} hl hf=>by
 obtain ⟨xs,m,_,hx,_,hn,hg⟩:=DataW.trod_struct ht hf
 match xs,hn with
 | [y0,y1,y2,y3,y4,y5,y6],_ =>
  have g0:DataW.trod enc Tryz.prog W 0 (λ_=>true) true m f0.type ((cs.drop f0.offset).take (Tryz.prog.cellsOf f0.type))=some y0:=hg 0 f0 J
  rw [o0,c0] at g0
  obtain ⟨v0,p0,q0,s0⟩:=h0.go (by rw [List.length_take,List.length_drop]; omega) g0
  have g1:DataW.trod enc Tryz.prog W 0 (λ_=>true) true m f1.type ((cs.drop f1.offset).take (Tryz.prog.cellsOf f1.type))=some y1:=hg 1 f1 J
  rw [o1,c1] at g1
  obtain ⟨v1,p1,q1,s1⟩:=h1.go (by rw [List.length_take,List.length_drop]; omega) g1
  have g2:DataW.trod enc Tryz.prog W 0 (λ_=>true) true m f2.type ((cs.drop f2.offset).take (Tryz.prog.cellsOf f2.type))=some y2:=hg 2 f2 J
  rw [o2,c2] at g2
  obtain ⟨v2,p2,q2,s2⟩:=h2.go (by rw [List.length_take,List.length_drop]; omega) g2
  have g3:DataW.trod enc Tryz.prog W 0 (λ_=>true) true m f3.type ((cs.drop f3.offset).take (Tryz.prog.cellsOf f3.type))=some y3:=hg 3 f3 J
  rw [o3,c3] at g3
  obtain ⟨v3,p3,q3,s3⟩:=h3.go (by rw [List.length_take,List.length_drop]; omega) g3
  have g4:DataW.trod enc Tryz.prog W 0 (λ_=>true) true m f4.type ((cs.drop f4.offset).take (Tryz.prog.cellsOf f4.type))=some y4:=hg 4 f4 J
  rw [o4,c4] at g4
  obtain ⟨v4,p4,q4,s4⟩:=h4.go (by rw [List.length_take,List.length_drop]; omega) g4
  have g5:DataW.trod enc Tryz.prog W 0 (λ_=>true) true m f5.type ((cs.drop f5.offset).take (Tryz.prog.cellsOf f5.type))=some y5:=hg 5 f5 J
  rw [o5,c5] at g5
  obtain ⟨v5,p5,q5,s5⟩:=h5.go (by rw [List.length_take,List.length_drop]; omega) g5
  have g6:DataW.trod enc Tryz.prog W 0 (λ_=>true) true m f6.type ((cs.drop f6.offset).take (Tryz.prog.cellsOf f6.type))=some y6:=hg 6 f6 J
  rw [o6,c6] at g6
  obtain ⟨v6,p6,q6,s6⟩:=h6.go (by rw [List.length_take,List.length_drop]; omega) g6
  have e0:cs.drop (0)=(cs.drop (0)).take k0++cs.drop (0+k0):=by have q:=(List.take_append_drop k0 (cs.drop (0))).symm; rwa [List.drop_drop] at q
  have e1:cs.drop (0+k0)=(cs.drop (0+k0)).take k1++cs.drop (0+k0+k1):=by have q:=(List.take_append_drop k1 (cs.drop (0+k0))).symm; rwa [List.drop_drop] at q
  have e2:cs.drop (0+k0+k1)=(cs.drop (0+k0+k1)).take k2++cs.drop (0+k0+k1+k2):=by have q:=(List.take_append_drop k2 (cs.drop (0+k0+k1))).symm; rwa [List.drop_drop] at q
  have e3:cs.drop (0+k0+k1+k2)=(cs.drop (0+k0+k1+k2)).take k3++cs.drop (0+k0+k1+k2+k3):=by have q:=(List.take_append_drop k3 (cs.drop (0+k0+k1+k2))).symm; rwa [List.drop_drop] at q
  have e4:cs.drop (0+k0+k1+k2+k3)=(cs.drop (0+k0+k1+k2+k3)).take k4++cs.drop (0+k0+k1+k2+k3+k4):=by have q:=(List.take_append_drop k4 (cs.drop (0+k0+k1+k2+k3))).symm; rwa [List.drop_drop] at q
  have e5:cs.drop (0+k0+k1+k2+k3+k4)=(cs.drop (0+k0+k1+k2+k3+k4)).take k5++cs.drop (0+k0+k1+k2+k3+k4+k5):=by have q:=(List.take_append_drop k5 (cs.drop (0+k0+k1+k2+k3+k4))).symm; rwa [List.drop_drop] at q
  have e6:cs.drop (0+k0+k1+k2+k3+k4+k5)=(cs.drop (0+k0+k1+k2+k3+k4+k5)).take k6:=(List.take_of_length_le (by rw [List.length_drop]; omega)).symm
  have e:cs=(cs.drop (0)).take k0++((cs.drop (0+k0)).take k1++((cs.drop (0+k0+k1)).take k2++((cs.drop (0+k0+k1+k2)).take k3++((cs.drop (0+k0+k1+k2+k3)).take k4++((cs.drop (0+k0+k1+k2+k3+k4)).take k5++((cs.drop (0+k0+k1+k2+k3+k4+k5)).take k6)))))):=(List.drop_zero (l:=cs)).symm.trans (e0.trans (congrArg ((cs.drop (0)).take k0++·) (e1.trans (congrArg ((cs.drop (0+k0)).take k1++·) (e2.trans (congrArg ((cs.drop (0+k0+k1)).take k2++·) (e3.trans (congrArg ((cs.drop (0+k0+k1+k2)).take k3++·) (e4.trans (congrArg ((cs.drop (0+k0+k1+k2+k3)).take k4++·) (e5.trans (congrArg ((cs.drop (0+k0+k1+k2+k3+k4)).take k5++·) (e6)))))))))))))
  refine ⟨(v0,v1,v2,v3,v4,v5,v6),⟨_,_,_,_,_,_,_,e,p0,p1,p2,p3,p4,p5,p6⟩,λu hu=>by rw [e] at hu; exact (AG q0 (AG q1 (AG q2 (AG q3 (AG q4 (AG q5 q6)))))) u hu,?_⟩
  subst hx
  simp only [Rows.uptoBulk,List.map_cons,List.map_nil,Rows.uptoBulkAll]
  omega⟩
theorem arg_s {α:Type} {t:TypeId} {k:Nat} {rep:Rdr→List Value→α→Prop} {sz:α→Nat} (h:Opn t k rep sz) {fs:Array Field} (ht:Tryz.prog.underlying t=some (.struct fs)) (hk:Tryz.prog.cellsOf t=k) {H:Type} {enc:TypeId×Value→H} {W:World} {r:Reach} {b0:Nat} {v:Value} {d:DataW H} {ps:List MemPlace} (hval:Value.okWide Tryz.prog W r b0 t v) (hT:DataW.Trod enc Tryz.prog W 0 (λ_=>true) true t v d ps) :
  ∃ cs y,v=.agg cs.toArray∧cs.length=k∧rep (rdW W) cs y∧sz y<Rows.uptoBulk d:=by
 obtain ⟨⟨cs⟩,rfl,hsz⟩:=okWide_struct ht hval
 rw [hk] at hsz
 obtain ⟨fuel,hf⟩:=hT
 obtain ⟨y,h1,h2,h3⟩:=h.go (by simpa using hsz) (show DataW.trod enc Tryz.prog W 0 (λ_=>true) true fuel t cs=some (d,ps) by simpa [Value.cells] using hf)
 exact ⟨cs,y,rfl,by simpa using hsz,h1,h3⟩
theorem arg_v {α:Type} {t e:TypeId} {rep:Rdr→List Value→α→Prop} {sz:α→Nat} (h:Opn t 1 rep sz) (ht:Tryz.prog.underlying t=some (.slice e)) {H:Type} {enc:TypeId×Value→H} {W:World} {r:Reach} {b0:Nat} {v:Value} {d:DataW H} {ps:List MemPlace} (hval:Value.okWide Tryz.prog W r b0 t v) (hT:DataW.Trod enc Tryz.prog W 0 (λ_=>true) true t v d ps) :
  ∃ y,rep (rdW W) [v] y∧sz y<Rows.uptoBulk d:=by
 obtain ⟨A,n,c,rfl⟩:=okWide_slice ht hval
 obtain ⟨fuel,hf⟩:=hT
 obtain ⟨y,h1,_,h3⟩:=h.go J (show DataW.trod enc Tryz.prog W 0 (λ_=>true) true fuel t [.slice A n c]=some (d,ps) by simpa [Value.cells] using hf)
 exact ⟨y,h1,h3⟩
theorem opn_raw:Opn 27 1 repT (λb=>b.length):=UM Ay uy5 kZ
theorem repT.one {C:Rdr} {v:Value} {b:Byt} (h:repT C [v] b):BytR C v b:=by
 obtain ⟨u,e,h⟩:=h
 injection e with e
 subst e
 exact h
theorem Hp:Opn 37 32 (T7 32) (λ_=>0):=UO DI uy5 kZ kZ
theorem JQ:Opn 22 1 T3 (λ_=>0):=UL CF
end Wr
end
section
namespace Wr
open Go.RowKit Sy
theorem JC {w:World} {A:Option Addr} {n cp:Nat} {b:Byt} (h:BytR (rdW w) (.slice A n cp) b):(convert 27 9 (.slice A n cp)).run Tryz.prog w=.ok (.string ⟨b.toArray⟩) w:=by
 obtain ⟨A',n',cp',e,h2,h3,h4,h5⟩:=h
 injection e with e1 e2 e3
 subst e1 e2 e3
 subst h2
 rcases b with _ | ⟨x,m⟩
 ·cases A with
  | none =>
   rw [show ([]:List UInt8).length=0 from rfl,run_convert_bytes_string w 27 9 5 none 0 cp Ay uy5 uy9]
   rfl
  | some a=>exact run_convert_bytes_back w 27 9 5 a cp [] Ay uy5 uy9 (λj hj=>absurd hj (Nat.not_lt_zero _))
 ·obtain ⟨g,o,rfl,hq⟩:=h5 (by simp)
  refine run_convert_bytes_back w 27 9 5 _ cp _ Ay uy5 uy9 (λj hj=>?_)
  rw [B']
  exact (hq j _ (List.getElem?_eq_getElem hj)).2
theorem T1 {w0:Base} {F:AK} {L:AA} {o:Oper} {v:Value} {b:Byt} (x:Operand) (ho:o.op=.convert 27 9 x) (hx:evF F x=v) (hv:∀ w,St w0 w L→BytR (rdW w) v b):Quiet Tryz.prog w0 F L o (.string ⟨b.toArray⟩):=λw hw=>by
 have q:=hv w hw
 obtain ⟨A,n,cp,rfl,_⟩:=hv w hw
 unfold Cq execOp
 simp only [ho,hx,Sem.run_bind,JC q,Result.andThen_ok,Sem.run_pure]
 exact ⟨trivial,Gr.refl _⟩
theorem F8 (w:World) (F:AK) (o:Oper) (x y:Operand) (a b:Ao) {yt:TypeId} (ho:o.op=.binOp .eql 9 x y yt) (hx:evF F x=.string ⟨a.toArray⟩) (hy:evF F y=.string ⟨b.toArray⟩):(execOp (evF F) o).run Tryz.prog w=.ok (.value (.bool (decide (a=b)))) w:=by
 have h1:(eqGuard .eql 9 x y (.string ⟨a.toArray⟩) (.string ⟨b.toArray⟩)).run Tryz.prog w=.ok () w:=by go_simp
 have h2:(binOp .eql 9 (.string ⟨a.toArray⟩) (.string ⟨b.toArray⟩)).run Tryz.prog w=.ok (.bool (decide (a=b))) w:=by
  by_cases e:a=b <;> simp [go_sem,ByteArray.toList_eq,e]
 unfold execOp
 simp only [ho,hx,hy,Sem.run_bind,h1,h2,Result.andThen_ok,Sem.run_pure]
theorem J2 (w:World) (v u:Value) (a b:Byt) (hv:BytR (rdW w) v a) (hu:BytR (rdW w) u b):AL 12 #[v,u] w (Ai w (.bool (decide (a=b)))):=by
 refine Sy.enter (args:=[v,u]) Tryz.func12 J kL<|sC<|sP (.bool false)<|sA<|sp J<|sS (.string ⟨a.toArray⟩) (T1 _ J J (λw' hw=>hv.at hw))<|sp J<|sS (.string ⟨b.toArray⟩) (T1 _ J J (λw' hw=>hu.at hw))<|sS (.bool (decide (a=b))) (Quiet.pure (λw=>F8 w _ _ _ _ a b J J J))<|sp J<|sG<|Sy.ret ?_
 exact rV (.bool (decide (a=b))) J
def erE (ok:Bool):Int:=if ok then 0 else 120
def byE (ok:Bool) (e:Byt):Byt:=if ok then e else []
theorem BytE.uni {ok:Bool} {e:Byt} {v:Value} {M:AA} (h:BytE ok e v M):∃ u,v=.tuple #[u,.int .i64 (erE ok)]∧BytR (rdB M) u (byE ok e):=by
 rcases h with ⟨rfl,u,rfl,h⟩ | ⟨rfl,rfl,rfl⟩
 ·exact ⟨u,rfl,h.byt⟩
 ·exact ⟨_,rfl,BytR.nil _⟩
theorem RdE.uni {α:Type} {k:Nat} {zc:List Value} {rep:Rdr→List Value→α→Prop} {o:Option α} {u:Value} {M:AA} (z:α) (hz:rep (rdB []) zc z) (hk:zc.length=k) (h:RdE k zc rep o u M):∃ cs,u=.tuple #[.agg cs.toArray,.int .i64 (erE o.isSome)]∧cs.length=k∧rep (rdB M) cs (o.getD z):=by
 rcases h with ⟨x,cs,rfl,rfl,h1,h2⟩ | ⟨rfl,rfl,rfl⟩
 ·exact ⟨cs,rfl,h1,h2⟩
 ·exact ⟨zc,rfl,hk,hz⟩
theorem B_ {w0:Base} {w:World} {L R:AA} (hw:St w0 w L) (hR:∀ b∈R,b∈L):Le (rdB R) (rdW w):=λg o v h=>Aa hw hR g o v (.inr h)
def CZ (z:Int):UInt8:=UInt8.ofNat (z%256).toNat
def okO (z:Int):Bool:=decide (0≤z) && decide (z≤255)
theorem M7 (w:World) (F:AK) (o:Oper) (x:Operand) (z:Int) (ho:o.op=.convert 3 5 x) (hx:evF F x=.int .i64 z):(execOp (evF F) o).run Tryz.prog w=.ok (.value (bv (CZ z))) w:=by
 have e:(CZ z).toNat=(z%256).toNat:=by unfold CZ; rw [UInt8.toNat_ofNat']; omega
 have h:(convert 3 5 (.int .i64 z)).run Tryz.prog w=.ok (bv (CZ z)) w:=by
  unfold bv
  rw [e]
  go_simp
  show z%256=max (z%256) 0
  omega
 unfold execOp
 simp only [ho,hx,Sem.run_bind,h,Result.andThen_ok,Sem.run_pure]
theorem Fy (w0:Base) (gc gw gx f:Nat) (bad:Bool) (s:Slc) (R:AA) (b:Byt) (z:Int) (hc:rdC w0 R gx f (.int .i64 z)) (hb:BS s b) (hl:b.length+1≤70368744177000) (w:World) (hw:St w0 w (CWS gc gw bad s R)) :
  AL 91 #[ptr gc,pT gx f] w (AQ w0 (WrC gc gw R (okO z) [CZ z] 1 bad b)):=by
 refine Sy.enterT (args:=[ptr gc,pT gx f]) hw Tryz.func91 J kL<|sC<|sp J<|sS (.bool false) (qg (λw hw=>CX w0.inn gc _ _ (List.mem_cons_self ..) w hw))<|sG<|sU<|sC ?_
 obtain ⟨ok,hok⟩:=xE (okO z)
 obtain ⟨b1,hb1⟩:=xE (decide (0≤z))
 obtain ⟨b2,hb2⟩:=xE (decide (z≤255))
 have e:ok=(b1 && b2):=by rw [hok,hb1,hb2]; rfl
 rw [← hok]
 refine sp J<|sp J<|sp J<|sS (.int .i64 z) (AH (R:=R) hc Ar J uy3)<|sS (.bool b1) (Quiet.pure (AD .geq _ _ _ .i64 _ _ _ J J J (Dn _ _ _ _ _ (by rw [hb1]))))<|sp J ?_
 cases b1
 case' false =>
  obtain rfl:ok=false:=e
  refine sN<|sN<|sN<|sN<|sP (.bool false)<|Sy.callT (λw hw=>Bt w0.inn gc gw bad false s R w hw) (λu M hM=>?_)
 case' true =>
  obtain rfl:ok=b2:=e
  refine sp J<|sp J<|sS (.int .i64 z) (AH (R:=R) hc Ar J uy3)<|sS (.bool ok) (Quiet.pure (AD .leq _ _ _ .i64 _ _ _ J J J (C' _ _ _ _ _ (by rw [hb2]))))<|sP (.bool ok)<|Sy.callT (λw hw=>Bt w0.inn gc gw bad ok s R w hw) (λu M hM=>?_)
 all_goals
  subst hM
  refine Sy.nil<|Sy.then_<|Sy.regionD (λj=>j == 8) kR<|sa 0 J J<|sa 1 J J<|sb 2 J (pT gc 0)<|sD 3 J (ptr gw) (qc 0 0 J J D0)<|sa 4 J J<|sa 5 J J<|se 6 [7,8] rfl (.int .i64 z) (AH (R:=R) hc Ar J uy3)<|sv 7 J (bv (CZ z)) (λw=>M7 w _ _ _ z J J)<|Sy.soleD 8 J (λQ2 hq2=>?_)
 ·refine Sy.callT (λw hw=>EI w0.inn gw s ((gc,134,#[ptr gw,.pointer none,.bool (bad || !ok)])::R) b (CZ z) hb om w (hw.perm permCW)) (λu M hM=>?_)
  obtain ⟨s1,hs1,rfl⟩:=hM
  refine Sy.permS permCW.symm<|hq2 _ _<|sE ?_
  exact Sy.retT0 J (CWS gc gw (bad || !ok) s1 R) (λ_ h=>h) (λ_=>⟨s1,bad || !ok,b++[CZ z],⟨rfl,λ_=>rfl,by rw [List.length_append]; exact Nat.le_refl _⟩,hs1,rfl⟩)
 ·refine Sy.callT (λw hw=>EI w0.inn gw s ((gc,134,#[ptr gw,.pointer none,.bool (bad || !false)])::R) b (CZ z) hb om w (hw.perm permCW)) (λu M hM=>?_)
  obtain ⟨s1,hs1,rfl⟩:=hM
  refine Sy.permS permCW.symm<|hq2 _ _<|sE ?_
  exact Sy.retT0 J (CWS gc gw (bad || !false) s1 R) (λ_ h=>h) (λ_=>⟨s1,bad || !false,b++[CZ z],⟨rfl,λh=>(by cases bad <;> cases h),by rw [List.length_append]; exact Nat.le_refl _⟩,hs1,rfl⟩)
def zOut:List Value:=(.int .i64 0::.bool false::(List.replicate 32 (.int .u8 0)++(List.replicate 8 (.int .u64 0)++(.bool false::.bool false::(List.replicate 9 (.int .u64 0)++(.bool false::List.replicate 4 (.slice none 0 0)))))))
def O4 (_:Rdr) (cs:List Value) (_:Unit):Prop:=cs=zOut
theorem TW:BI O4:=λ_ h=>h
theorem TF:DK 46 58 O4 (λ_=>false) (λ_=>[]) (λ_=>1):=λw0 gc gw gx f bad s R b cs x hx _ hc hb hl w hw=>by
 obtain rfl:cs=zOut:=hx
 have h0:rdC w0 R gx f (.int .i64 0):=XAt.one hc
 refine Sy.enterT (args:=[ptr gc,pT gx f]) hw Tryz.func46 J kL<|sC<|sp J<|sp J<|sp J<|sP (pT gx f)<|Sy.callT (λw hw=>Fy w0.inn gc gw gx f bad s R b 0 h0 hb om w hw) (λu M hM=>?_)
 obtain ⟨s1,bad1,b1,q1,q2,rfl⟩:=hM
 refine sA<|sp J<|sp J<|sP (pT gx f)<|sS (.int .i64 0) (AH (R:=R) h0 Ar J uy3)<|sG<|Sy.block<|Sy.seq<|Sy.block<|Sy.seq<|Sy.block<|Sy.block<|Sy.block<|Sy.block<|Sy.seq<|Sy.seq<|sC<|sP (.bool false)<|sp J<|sG<|sU<|Sy.skip<|Sy.then_<|Sy.seq<|sC<|sP (.bool false)<|sp J<|sG<|sU<|Sy.skip<|Sy.then_<|Sy.seq<|sC<|sP (.bool false)<|sp J<|sG<|sU<|Sy.skip<|Sy.then_<|sC<|sP (.bool false)<|sp J<|sG<|sU<|Sy.skip<|Sy.then_<|Sy.exit ?_
 refine Sy.in_pass (by decide)<|Sy.in_pass (by decide)<|Sy.in_pass (by decide)<|Sy.in_pass (by decide)<|Sy.then_exit<|Sy.in_exit<|sB<|sp J<|Sy.callT (λw hw=>Bt w0.inn gc gw bad1 false s1 R w hw) (λu M hM=>?_)
 subst hM
 refine sG<|Sy.exit<|Sy.in_exit ?_
 exact Sy.retT0 J (CWS gc gw (bad1 || !false) s1 R) (λ_ h=>h) (λ_=>⟨s1,bad1 || !false,b1,⟨by cases bad1 <;> cases bad <;> rfl,λh=>(by cases bad1 <;> cases h),q1.len⟩,q2,rfl⟩)
theorem K1 {α:Type} {rep:Rdr→List Value→α→Prop} {ok:α→Bool} {enc:α→Byt} {wt:α→Nat} (hm:BI rep) (hp:DK 46 58 rep ok enc wt) (w:World) (cs:List Value) (x:α) (hx:rep (rdW w) cs x) (hl:cs.length=58) (hwt:wt x≤70368744170000) :
  AL 47 #[.agg cs.toArray,.func (.func 46) #[] #[]] w (A0 w (BytE (ok x) (enc x))):=by
 refine Sy.enter (args:=[.agg cs.toArray,.func (.func 46) #[] #[]]) Tryz.func47 J kL<|sC<|sM 63 cs.toArray (λgx=>?_) kR (λw=>An J J kZ hl w)
 refine sP (.slice none 0 0)<|sP (.int .i64 0)<|sA<|Sy.callN kR 57 #[] kF _ (λw _=>JW w) (λv M hM=>?_)
 obtain ⟨gw,rfl,rfl⟩:=hM
 refine sP (.agg #[ptr gw,.pointer none,.bool false])<|sM 134 #[ptr gw,.pointer none,.bool false] (λgc=>?_)
 refine sp J<|sA<|Sy.permS (M:=CWS gc gw false nilS [(gx,63,cs.toArray)]) (Sy.perm_at [2,1,0] kZ (by rfl))<|sp J<|sp J<|Sy.callT (λw' hw=>hp (Base.of w) gc gw gx 0 false nilS [(gx,63,cs.toArray)] [] cs x (hm D5 hx) hl (FM (List.mem_singleton.2 J)) BS.nil (by show 0+_≤_; omega) w' hw) (λv M hM=>?_)
 obtain ⟨s,bad,b,q1,q2,rfl⟩:=hM
 have hbl:b.length≤wt x:=by have:=q1.len; simpa using this
 refine sG<|Sy.seq<|sC<|sp J<|sp J<|sP (pT gc 2)<|sS (.bool bad) (qc 0 2 J J uy4)<|sG ?_
 cases bad
 ·have hok:ok x=true:=by
   have e:=q1.bad
   cases h:ok x with
   | true=>rfl
   | false=>rw [h] at e; cases e
  obtain rfl:b=enc x:=by have:=q1.bytes rfl; simpa using this
  refine sU<|Sy.skip<|sB<|sp J<|sp J<|sP (pT gc 0)<|sS (ptr gw) (qc 0 0 J J D0)<|Sy.callT (λw' hw=>bytes_any (Base.of w) gw s ((gc,134,#[ptr gw,.pointer none,.bool false])::[(gx,63,cs.toArray)]) (enc x) q2 om w' (hw.perm permCW)) (λv M hM=>?_)
  obtain ⟨N,hN,rfl⟩:=hM
  refine sp J<|sP (.int .i64 0)<|sG<|Sy.ret ?_
  exact Sy.retGM2 N J (.inl (show _=_ by kernel_rfl)) (.inl (show _=_ by kernel_rfl)) (λ_ h=>h.less (List.sublist_append_right _ _)) (.inl ⟨hok,v,rfl,hN⟩)
 ·have hok:ok x=false:=by
   have e:=q1.bad
   cases h:ok x with
   | false=>rfl
   | true=>rw [h] at e; cases e
  refine sT<|sC<|sP (.slice none 0 0)<|sP (.int .i64 120)<|sG<|Sy.ret<|Sy.then_ret ?_
  exact Sy.retGM2 [] rfl (.inl (show _=_ by kernel_rfl)) (.inl (show _=_ by kernel_rfl)) (λ_ h=>h.none) (.inr ⟨hok,rfl,rfl⟩)
theorem R6 {α:Type} {rep:Rdr→List Value→α→Prop} {ok:α→Bool} {enc:α→Byt} {wt:α→Nat} (hm:BI rep) (hp:DK 46 58 rep ok enc wt) (w:World) (cs:List Value) (x:α) (hx:rep (rdW w) cs x) (hl:cs.length=58) (hwt:wt x≤70368744170000) :
  AL 20 #[.agg cs.toArray] w (A0 w (BytE (ok x) (enc x))):=by
 refine Sy.enter (args:=[.agg cs.toArray]) Tryz.func20 J kL<|sC<|sM 63 cs.toArray (λgx=>?_) kR (λw=>An J J kZ hl w)
 refine sP (.slice none 0 0)<|sP (.int .i64 0)<|sA<|sS (.agg cs.toArray) (Bd (R:=[(gx,63,cs.toArray)]) (FM (List.mem_singleton.2 J)) (λ_ h=>h) hl J G')<|Sy.callN kR 47 #[.agg cs.toArray,.func (.func 46) #[] #[]] kF (BytE (ok x) (enc x)) (λw' hw=>K1 (rep:=rep) hm hp w' cs x (hm (λg o u h=>Aa (R:=[]) hw (λ_ h=>by cases h) g o u (.inl h)) hx) hl hwt) (λv M hM=>?_)
 have hv:∃ a e:Value,v=.tuple #[a,e]:=by
  rcases hM with ⟨_,u,rfl,_⟩ | ⟨_,rfl,_⟩ <;> exact ⟨_,_,rfl⟩
 obtain ⟨a,e,rfl⟩:=hv
 refine sp J<|sp J<|sp J<|sp J<|sG<|Sy.ret ?_
 exact Sy.retGM2 M J (.inl (show _=_ by kernel_rfl)) (.inl (show _=_ by kernel_rfl)) (λ_ h=>h.less (List.sublist_append_right _ _)) hM
def CY:Ps Int:=AJ (Bj 1) λn=>BO (n:Int)
theorem Eo:BI DC:=λ_ h=>h
section
variable {α:Type} {rep:Rdr→List Value→α→Prop} {ok:α→Bool} {enc:α→Byt} {wt:α→Nat}
end
section
variable {α:Type} {rep:Rdr→List Value→α→Prop} {ok:α→Bool} {enc:α→Byt} {wt:α→Nat}
end
section
variable {α:Type} {rep:Rdr→List Value→α→Prop} {p:Ps α}
end
theorem After.mustN {α:Type} (y:α) {s s':RS} (h:s'.e≠0):After (AJ (BJ false) λ_=>BO y) s y s':=⟨λ_=>h,λz r _ hp=>(by cases hp),λ_ _=>h⟩
theorem SF (w:World) (F:AK) (o:Oper) (x:Operand) (k:Nat) (hk:k<256) (ho:o.op=.convert 5 3 x) (hx:evF F x=bv (UInt8.ofNat k)):(execOp (evF F) o).run Tryz.prog w=.ok (.value (.int .i64 (k:Int))) w:=by
 have e1:(UInt8.ofNat k).toNat=k:=by rw [UInt8.toNat_ofNat']; omega
 have e:(convert 5 3 (.int .u8 (k:Int))).run Tryz.prog w=.ok (.int .i64 (k:Int)) w:=by
  go_simp
  exact BN om om
 unfold execOp
 simp only [ho,hx,bv,e1,e,Sem.run_bind,Sem.run_pure,Result.andThen_ok]
def Ur (_:Rdr) (cs:List Value) (z:Int):Prop:=cs=[.int .i64 z]
theorem G0:B4 91 1 [.int .i64 0] Ur CY:=λw0 gc gr gx f tx A Z sl s R S hS hA he hl hv w hw=>by
 refine Sy.enterT (args:=[ptr gc,pT gx f]) hw Tryz.func91 J kL<|sC<|sp J<|sS (.bool true) (qg (λw hw=>CL w0.inn gc gr _ _ (List.mem_cons_self ..) w hw))<|sG<|sT<|Sy.region<|sp J<|sp J<|sp J<|sP (pT gc 1)<|sS (ptr gr) (qc 0 1 J J BD)<|Sy.callT (λw hw=>OS w0.inn gr sl s ((gc,134,#[.pointer none,ptr gr,.bool false])::(gx,tx,(A++([Value.int .i64 0]++Z)).toArray)::R) S (λb h=>List.mem_cons_of_mem _ (List.mem_cons_of_mem _ (hS b h))) he hv w (hw.perm permCR)) (λu M hM=>?_)
 obtain ⟨x,s',sl',q1,⟨rfl,q2⟩,q3,q4,q5,rfl⟩:=hM
 refine Sy.permS permCR.symm<|sS (.int .i64 (x:Int)) (Quiet.pure (λw=>SF w _ _ _ x q2 J J))<|sp J<|sw 1 J (A++([Value.int .i64 (x:Int)]++Z)).toArray (Writes.one f 3 (.int .i64 (x:Int)) _ _ J kR kR kR J J (by rw [List.size_toArray,List.length_append,hA]; exact Nat.lt_add_of_pos_right (Nat.succ_pos _)) (Aq hA))<|Sy.nil ?_
 exact Sy.retT0 J (CRS gc gr gx tx (A++([Value.int .i64 (x:Int)]++Z)) sl' s'.e R) (λ_ h=>h) (λ_=>⟨(x:Int),s',sl',[Value.int .i64 (x:Int)],[],q1.bind (After.ret _ _),rfl,λu hu=>by rw [List.mem_singleton.1 hu]; rfl,rfl,q3,q4,q5,by rw [List.append_nil]⟩)
theorem S2 (b:Byt) (most:Nat):(vrN b most).1≤most:=by
 by_cases h:(vrN b most).2.2=0
 ·exact (I1 h).2.2
 ·unfold vrN at h ⊢
  by_cases hc:(vrG b).2.2=0∧most<(vrG b).1
  ·rw [if_pos hc]; exact Nat.zero_le _
  ·rw [if_neg hc] at h ⊢
   rw [G7 h]; exact Nat.zero_le _
theorem NR (w0:Base) (gr:Nat) (sl:Value) (s:RS) (R S:AA) (hS:∀ b∈S,b∈R) (most:Nat) (hm:most<1000000) (he0:s.e≤200) (hl:s.rest.length≤70368744177664) (hv:BytR (rdC w0 S) sl s.rest) (w:World) (hw:St w0 w (RQ gr sl s.e R)) :
  AL 150 #[ptr gr,.int .i64 (most:Int)] w (AQ w0 (Tr (Bu most) (λx v N=>ByN x v N) w0 gr R S s)):=by
 have hv0:=hv
 obtain ⟨A,m,cp,rfl,h2,h3,h4,h5⟩:=hv
 obtain ⟨f,hf⟩:=xE (vrN s.rest most)
 obtain ⟨q1,q2,q3⟩:=Gu s.rest most
 have hlt:=S2 s.rest most
 have hy:=@I1 s.rest most
 have hno:=@OZ s.rest most
 rw [← hf] at q1 q2 q3 hy hno hlt
 obtain ⟨e,he⟩:=xE (if f.2.2=0∧m - f.2.1<f.1 then 110 else f.2.2)
 have he2:e≤200:=by rw [he]; split <;> omega
 refine Sy.enterT (args:=[ptr gr,.int .i64 (most:Int)]) hw Tryz.func150 J kL<|sC<|sP (.slice none 0 0)<|sA<|sp J<|sp J<|sP (pT gr 0)<|sS (.slice A m cp) (qc 0 0 J J Ay)<|sp J<|sS (t3V f) (qg (λw' hw=>by rw [hf]; exact Gi w' _ _ most om (hv0.le (Aa (w0:=w0.inn) hw (λ_ h=>List.mem_cons_of_mem _ (hS _ h))))))<|sp J<|sp J<|sp J<|sp J<|sp J<|sp J<|sp J<|sG<|Sy.seq<|De [(0,ptr gr),(5,uZ (f.1:Int)),(6,.int .i64 (f.2.1:Int)),(7,.int .i64 (e:Int))] (RQ gr (.slice A m cp) s.e R) ?_ ?_
 ·refine sC ?_
  obtain ⟨b1,hb1⟩:=xE (decide (f.2.2=0))
  refine sp J<|sS (.bool b1) (qeq J J J hb1)<|sp J ?_
  cases b1
  ·have l1:=dN hb1
   rw [if_neg (λh=>l1 h.1)] at he
   rw [he]
   refine sN<|sN<|sN<|sN<|sN<|sN<|sN<|sN<|sN<|sN<|sP (.bool false)<|sG<|sU<|Sy.skip ?_
   exact BK ac4 (λ_ h=>h)
  have l1:=dY hb1
  obtain ⟨b2,hb2⟩:=xE (decide (m - f.2.1<f.1))
  have l2:=(hy l1).2.1
  refine sp J<|sp J<|sp J<|sP (pT gr 0)<|sS (.slice A m cp) (qc 0 0 J J Ay)<|sP (.int .i64 (m:Int))<|sp J<|sS (iZ (m - f.2.1)) (Quiet.pure (AD .sub _ _ _ .i64 _ _ _ J J J (Cd _ _ _ _ _ ((BN (by simp only [maxLen] at h4; omega) (by simp only [maxLen] at h4; omega)).trans om))))<|sS (uZ ((m - f.2.1:Nat):Int)) (Quiet.pure (λw=>Ce w _ _ _ (m - f.2.1) (by simp only [maxLen] at h4; omega) rfl J))<|sS (.bool b2) (Quiet.pure (AD .gtr _ _ _ .u64 _ _ _ J J J (Dm _ _ _ _ _ (by rw [hb2]; exact decide_eq_decide.2 om))))<|sP (.bool b2)<|sG ?_
  cases b2
  ·have l3:=dN hb2
   rw [if_neg (λh=>l3 h.2)] at he
   rw [he]
   refine sU<|Sy.skip ?_
   exact BK ac4 (λ_ h=>h)
  ·have l3:=dY hb2
   rw [if_pos ⟨l1,l3⟩] at he
   rw [he]
   refine sT<|Sy.region<|sP (.int .i64 110)<|Sy.nil ?_
   exact BK ac4 (λ_ h=>h)
 refine sB<|sp J<|sp J<|sp J<|sp J<|sS (.int .i64 (f.1:Int)) (Quiet.pure (λw=>GB w _ _ _ f.1 om J J))<|sS (iZ (f.2.1+f.1)) (qad J J J)<|sp J<|Sy.callT (λw hw=>Ik (Bu most) w0.inn gr (.slice A m cp) s R S hS f.2.1 (f.2.1+f.1) e he0 he2 hl (λh=>?_) (λh=>?_) hv0 w hw) (λv M hM=>?_)
 ·have hz:f.2.2=0∧¬ m - f.2.1<f.1:=by
   by_cases h1:f.2.2=0∧m - f.2.1<f.1
   ·rw [if_pos h1] at he; omega
   ·rw [if_neg h1] at he
    exact ⟨by omega,λh2=>h1 ⟨by omega,h2⟩⟩
  obtain ⟨y1,y2,y3⟩:=hy hz.1
  refine ⟨Nat.le_add_right _ _,by omega,?_⟩
  unfold Bu
  rw [bind_some y1,Nat.add_sub_cancel_left, ← List.drop_drop]
  exact if_pos (by rw [List.length_drop]; omega)
 ·by_cases h1:f.2.2=0
  ·have h3:m - f.2.1<f.1:=by
    by_cases h4:m - f.2.1<f.1
    ·exact h4
    ·rw [if_neg (λh=>h4 h.2)] at he; exact (h om).elim
   obtain ⟨y1,y2,y3⟩:=hy h1
   unfold Bu
   rw [bind_some y1]
   exact if_neg (by rw [List.length_drop]; omega)
  ·exact bind_none (hno h1)
 obtain ⟨x,s',sl',N,hA,⟨hN,_⟩,r2,r3,r4,rfl⟩:=hM
 refine sp J<|sG<|Sy.ret ?_
 exact Sy.retT1 (RQ gr sl' s'.e (R++N)) J (.inl (show _=_ by kernel_rfl)) (λ_ h=>h) ⟨x,s',sl',N,hA,hN,r2,r3,r4,rfl⟩
def DP (C:Rdr) (cs:List Value) (b:Byt):Prop:=∃ v,cs=[v]∧BytR C v b
theorem Ee (w0:Base) (gc gw gx f:Nat) (bad:Bool) (s:Slc) (R:AA) (b x:Byt) (v:Value) (most:Nat) (hmo:most<1000000) (hv:BytR (rdC w0 R) v x) (hc:rdC w0 R gx f v) (hb:BS s b) (hl:b.length+(9+x.length)≤70368744176000) (w:World) (hw:St w0 w (CWS gc gw bad s R)) :
  AL 88 #[ptr gc,pT gx f,.int .i64 (most:Int)] w (AQ w0 (WrC gc gw R (decide (x.length≤most)) (Af x.length++x) (9+x.length) bad b)):=by
 have hv0:=hv
 obtain ⟨A,n,cp,rfl,h2,h3,h4,h5⟩:=hv
 have hn9:=Cj x.length
 obtain ⟨ok,hok⟩:=xE (decide (x.length≤most))
 rw [← hok]
 rw [h2] at hok
 refine Sy.enterT (args:=[ptr gc,pT gx f,.int .i64 (most:Int)]) hw Tryz.func88 J kL<|sC<|sp J<|sS (.bool false) (qg (λw hw=>CX w0.inn gc _ _ (List.mem_cons_self ..) w hw))<|sG<|sU<|sC<|sp J<|sp J<|sp J<|sS (.slice A n cp) (AH (R:=R) hc Ar J Ay)<|sP (.int .i64 (n:Int))<|sp J<|sS (.bool ok) (qle J J J hok)<|Sy.callT (λw hw=>Bt w0.inn gc gw bad ok s R w hw) (λu M hM=>?_)
 subst hM
 refine Sy.nil<|Sy.then_<|Sy.regionD (λj=>j == 7) kR<|sa 0 J J<|sa 1 J J<|sb 2 J (pT gc 0)<|sD 3 J (ptr gw) (qc 0 0 J J D0)<|sa 4 J J<|sa 5 J J<|sD 6 J (.slice A n cp) (AH (R:=R) hc Ar J Ay)<|Sy.soleD 7 J (λQ2 hq2=>?_)
 refine Sy.callT (λw hw=>Og w0.inn gw s ((gc,134,#[ptr gw,.pointer none,.bool (bad || !ok)])::R) b x (.slice A n cp) (hv0.le (B1 (λ_ h=>List.mem_cons_of_mem _ h))) hb om w (hw.perm permCW)) (λu M hM=>?_)
 obtain ⟨s1,hs1,rfl⟩:=hM
 refine Sy.permS permCW.symm<|hq2 _ _<|sE ?_
 have q:=(Wrote.must ok bad b).then_ (Wrote.raw (Af x.length++x) (bad || !ok) b (k:=9+x.length) (by rw [List.length_append]; omega))
 rw [Bool.and_true,List.nil_append,Nat.zero_add] at q
 exact Sy.retT0 J (CWS gc gw (bad || !ok) s1 R) (λ_ h=>h) (λ_=>⟨s1,bad || !ok,_,q,hs1,rfl⟩)
theorem Ef (most:Nat) (hmo:most<1000000) (w0:Base) (gc gr gx f:Nat) (tx:TypeId) (A Z:List Value) (sl:Value) (s:RS) (R S:AA) (hS:∀ b∈S,b∈R) (hA:A.length=f) (he:s.e≤200) (hl:s.rest.length≤70368744177664) (hv:BytR (rdC w0 S) sl s.rest) (w:World) (hw:St w0 w (CRS gc gr gx tx (A++([Value.slice none 0 0]++Z)) sl s.e R)) :
  AL 88 #[ptr gc,pT gx f,.int .i64 (most:Int)] w (AQ w0 (RdT 1 DP (Bu most) w0 gc gr gx tx A Z s R S)):=by
 refine Sy.enterT (args:=[ptr gc,pT gx f,.int .i64 (most:Int)]) hw Tryz.func88 J kL<|sC<|sp J<|sS (.bool true) (qg (λw hw=>CL w0.inn gc gr _ _ (List.mem_cons_self ..) w hw))<|sG<|sT<|Sy.region<|sp J<|sp J<|sp J<|sP (pT gc 1)<|sS (ptr gr) (qc 0 1 J J BD)<|sp J<|Sy.callT (λw hw=>NR w0.inn gr sl s ((gc,134,#[.pointer none,ptr gr,.bool false])::(gx,tx,(A++([Value.slice none 0 0]++Z)).toArray)::R) S (λb h=>List.mem_cons_of_mem _ (List.mem_cons_of_mem _ (hS b h))) most hmo he hl hv w (hw.perm permCR)) (λu M hM=>?_)
 obtain ⟨x,s',sl',N,q1,q2,q3,q4,q5,rfl⟩:=hM
 refine Sy.permS (M:=CRS gc gr gx tx (A++([Value.slice none 0 0]++Z)) sl' s'.e (R++N)) permCR.symm ?_
 have hc:=q2.byt.cells
 refine sp J<|sw 1 J (A++([u]++Z)).toArray (Writes.one f 27 u _ _ J kR kR kR hc.1 hc.2 (by rw [List.size_toArray,List.length_append,hA]; exact Nat.lt_add_of_pos_right (Nat.succ_pos _)) (Aq hA))<|Sy.nil ?_
 exact Sy.retT0 J (CRS gc gr gx tx (A++([u]++Z)) sl' s'.e (R++N)) (λ_ h=>h) (λ_=>⟨x,s',sl',[u],N,q1,rfl,λy hy=>by rw [List.mem_singleton.1 hy]; exact hc.2,⟨u,rfl,q2.byt⟩,q3,q4,q5,rfl⟩)
theorem C5 (w0:Base) (gc gr:Nat) (sl:Value) (e:Nat) (he:e≤200) (R:AA) (h:Bool) (w:World) (hw:St w0 w (CRN gc gr sl e R)) :
  AL 90 #[ptr gc,.bool h] w (AQ w0 (λ_ M=>M=CRN gc gr sl (if h=true then e else if e=0 then 120 else e) R)):=by
 refine Sy.enterT (args:=[ptr gc,.bool h]) hw Tryz.func90 J kL<|Sy.block<|sC<|sp J<|sp J<|sG ?_
 cases h
 ·rw [if_neg dZ]
  refine sU<|sC<|sp J<|sS (.bool true) (qg (λw hw=>CL w0.inn gc gr _ _ (List.mem_cons_self ..) w hw))<|sp J<|sG<|sT<|Sy.region<|sp J<|sp J<|sP (pT gc 1)<|sS (ptr gr) (qc 0 1 J J BD)<|Sy.callT (λw hw=>H_ w0.inn gr sl e 120 he ((gc,134,#[.pointer none,ptr gr,.bool false])::R) w (hw.perm (List.Perm.swap _ _ _))) (λu M hM=>?_)
  subst hM
  refine Sy.permS (List.Perm.swap _ _ _)<|Sy.nil<|Sy.in_ ?_
  exact Sy.retT0 J (CRN gc gr sl (if e=0 then 120 else e) R) (λ_ h=>h) (λ_=>by rfl)
 ·rw [if_pos J]
  refine sT<|Sy.skip<|Sy.in_ ?_
  exact Sy.retT0 J (CRN gc gr sl e R) (λ_ h=>h) (λ_=>by rfl)
def OwnAt (R:AA) (gx f:Nat) (cs:List Value):Prop:=∃ tx A Z,(gx,tx,(A++(cs++Z)).toArray)∈R∧A.length=f
theorem OwnAt.at {R:AA} {gx f:Nat} {cs:List Value} (h:OwnAt R gx f cs) (w0:Base):XAt (rdC w0 R) gx f cs:=λi u hu=>by
 obtain ⟨tx,A,Z,hm,rfl⟩:=h
 refine .inr ⟨tx,_,hm,?_⟩
 rw [List.getElem?_toArray,List.getElem?_append_right om,Nat.add_sub_cancel_left,List.getElem?_append_left (List.getElem?_eq_some_iff.1 hu).1]
 exact hu
theorem OwnAt.left {R:AA} {gx f:Nat} {a b:List Value} (h:OwnAt R gx f (a++b)):OwnAt R gx f a:=by
 obtain ⟨tx,A,Z,hm,hA⟩:=h
 exact ⟨tx,A,b++Z,by rw [← List.append_assoc a]; exact hm,hA⟩
theorem OwnAt.right {R:AA} {gx f n:Nat} {a b:List Value} (h:OwnAt R gx f (a++b)) (hn:a.length=n):OwnAt R gx (f+n) b:=by
 obtain ⟨tx,A,Z,hm,hA⟩:=h
 exact ⟨tx,A++a,Z,by rw [List.append_assoc, ← List.append_assoc a]; exact hm,by rw [List.length_append,hA,hn]⟩
theorem swM {P:Program} {w0:Base} {n:Nat} {ops:Array Oper} {Q:Exit→Act→World→Prop} {F:AK} {L:AA} {l:List Oper} {o:Oper} {g:Nat} {t:TypeId} {cs:Array Value} (hm:(g,t,cs)∈L) (hw:Writes P F o g t cs cs) (h:wpS P w0 n ops Q (Br F o.dst undef) L l) (hg:B3 ops n F o=true:=by kernel_rfl):wpS P w0 n ops Q F L (o::l):=by
 obtain ⟨i,hi⟩:=List.getElem?_of_mem hm
 refine Sy.write hg i g t cs cs hi hw ?_
 obtain ⟨hlt,he⟩:=List.getElem?_eq_some_iff.1 hi
 have e:L.set i (g,t,cs)=L:=by rw [← he]; exact List.set_getElem_self hlt
 rw [e]
 exact h
theorem permB {b:Nat×TypeId×Array Value} {L:AA}:(b::L).Perm (L++[b]):=List.perm_append_comm (l₁:=[b]) (l₂:=L)
def trB (x:Bool):UInt8:=CZ (if x=true then 1 else 0)
theorem MD (w0:Base) (gc gw gx f:Nat) (bad:Bool) (s:Slc) (R:AA) (b:Byt) (x:Bool) (hc:OwnAt R gx f [.bool x]) (hb:BS s b) (hl:b.length+1≤70368744177000) (w:World) (hw:St w0 w (CWS gc gw bad s R)) :
  AL 89 #[ptr gc,pT gx f] w (AQ w0 (WrC gc gw R true [trB x] 1 bad b)):=by
 have hcell:rdC w0.inn R gx f (.bool x):=(hc.at w0.inn).one
 obtain ⟨tx,A,Z,hmem,hA⟩:=hc
 refine Sy.enterT (args:=[ptr gc,pT gx f]) hw Tryz.func89 J kL<|sC<|sM 3 #[.int .i64 0] (λg4=>?_)
 refine Sy.permS List.perm_append_comm<|sw 0 J #[.int .i64 0] (wO 0 3 (.int .i64 0) rfl)<|sG ?_
 obtain ⟨z,hz⟩:∃ z:Int,z=if x=true then 1 else 0:=⟨_,rfl⟩
 have hz1:decide (z≤1)=true:=by rw [hz]; cases x <;> rfl
 have hzx:x=decide (z=1):=by rw [hz]; cases x <;> rfl
 have hzo:okO z=true:=by rw [hz]; cases x <;> rfl
 refine Sy.seq<|De [(0,ptr gc),(1,pT gx f),(4,ptr g4)] ((g4,3,#[.int .i64 z])::CWS gc gw bad s R) ?_ ?_
 ·refine sC ?_
  refine sp J<|sp J<|sS (.bool x) (AH (R:=R) hcell (λy hy=>List.mem_cons_of_mem _ (Ar y hy)) J uy4)<|sG ?_
  cases x
  ·obtain rfl:z=0:=hz
   refine sU<|Sy.skip ?_
   exact BK ac3 (λ_ h=>h)
  ·obtain rfl:z=1:=hz
   refine sT<|Sy.region<|sw 0 J #[.int .i64 1] (wO 0 3 (.int .i64 1) rfl)<|Sy.nil ?_
   exact BK ac3 (λ_ h=>h)
 refine sB<|sp J<|Sy.permS (M:=CWS gc gw bad s (R++[(g4,3,#[.int .i64 z])])) (permB.trans (List.Perm.of_eq eqCW))<|Sy.callT (λw hw=>Fy w0.inn gc gw g4 0 bad s (R++[(g4,3,#[.int .i64 z])]) b z (Aj CM) hb om w hw) (λu M hM=>?_)
 obtain ⟨s1,bad1,b1,q1,q2,rfl⟩:=hM
 refine sA<|sp J<|sS (.int .i64 z) (AH (R:=R++[(g4,3,#[.int .i64 z])]) (Aj CM) Ar J uy3)<|sS (.bool true) (Quiet.pure (AD .leq _ _ _ .i64 _ _ _ J J J (C' _ _ _ _ _ hz1)))<|Sy.callT (λw hw=>Bt w0.inn gc gw bad1 true s1 (R++[(g4,3,#[.int .i64 z])]) w hw) (λu M hM=>?_)
 subst hM
 rw [show (bad1 || !true)=bad1 by cases bad1 <;> rfl]
 refine Sy.nil<|Sy.then_<|Sy.region<|sp J<|sS (.int .i64 z) (AH (R:=R++[(g4,3,#[.int .i64 z])]) (Aj CM) Ar J uy3)<|sS (.bool x) (Quiet.pure (AD .eql _ _ _ .i64 _ _ _ J J J (Ab _ _ _ _ _ hzx.symm)))<|sp J<|swM (Ar _ (inA hmem)) (Writes.one f 4 (.bool x) _ _ J kR kR kR J J (by rw [List.size_toArray,List.length_append,hA]; exact Nat.lt_add_of_pos_right (Nat.succ_pos _)) (Aq hA))<|Sy.nil ?_
 rw [hzo,show CZ z=trB x by rw [hz]; rfl] at q1
 exact Sy.retT0 J (CWS gc gw bad1 s1 R) (λ_ h=>C1 h) (λ_=>⟨s1,bad1,b1,q1,q2,rfl⟩)
def T4 (_:Rdr) (cs:List Value) (b:Bool):Prop:=cs=[.bool b]
def HO:Ps Bool:=AJ CY λz=>AJ (BJ (decide (z≤1))) λ_=>BO (decide (z=1))
theorem PL {a b c d:Nat×TypeId×Array Value} {R:AA}:(a::b::c::d::R).Perm (b::a::d::c::R):=by
 have h2:([a,b,c,d]++R).Perm ([b,a,d,c]++R):=(Sy.perm_at [1,0,3,2] kZ (by rfl)).append_right R
 exact h2
theorem ME:B4 89 1 [.bool false] T4 HO:=λw0 gc gr gx f tx A Z sl s R S hS hA he hl hv w hw=>by
 refine Sy.enterT (args:=[ptr gc,pT gx f]) hw Tryz.func89 J kL<|sC<|sM 3 #[.int .i64 0] (λg4=>?_)
 refine Sy.permS List.perm_append_comm<|sw 0 J #[.int .i64 0] (wO 0 3 (.int .i64 0) rfl)<|sG<|Sy.seq<|sC<|sp J<|sp J<|sS (.bool false) (Quiet.cell 2 gx f tx 4 (A++([Value.bool false]++Z)).toArray _ _ J kR J uy4 J _ (by rw [List.getElem?_toArray,List.getElem?_append_right om,hA,Nat.sub_self]; rfl)) ?_
 refine sG<|sU<|Sy.skip<|sB<|sp J ?_
 have p4:((g4,3,#[Value.int .i64 0])::CRS gc gr gx tx (A++([Value.bool false]++Z)) sl s.e R).Perm (CRS gc gr g4 3 ([]++([Value.int .i64 0]++[])) sl s.e ((gx,tx,(A++([Value.bool false]++Z)).toArray)::R)):=PL
 refine Sy.permS p4<|Sy.callT (λw hw=>G0 w0.inn gc gr g4 0 3 [] [] sl s ((gx,tx,(A++([Value.bool false]++Z)).toArray)::R) S (λb h=>List.mem_cons_of_mem _ (hS b h)) J he hl hv w hw) (λu M hM=>?_)
 obtain ⟨x1,s1,sl1,cs1,N1,a1,a2,a3,rfl,a5,a6,a7,rfl⟩:=hM
 obtain ⟨b1,hb1⟩:=xE (decide (x1≤1))
 obtain ⟨b2,hb2⟩:=xE (decide (x1=1))
 obtain ⟨e2,he2⟩:=xE (if b1=true then s1.e else if s1.e=0 then 120 else s1.e)
 refine sA<|sp J<|sS (.int .i64 x1) (qc 1 0 J J uy3)<|sS (.bool b1) (Quiet.pure (AD .leq _ _ _ .i64 _ _ _ J J J (C' _ _ _ _ _ hb1.symm)))<|Sy.permS (M:=CRN gc gr sl1 s1.e ((g4,3,([]++([Value.int .i64 x1]++[])).toArray)::((gx,tx,(A++([Value.bool false]++Z)).toArray)::(R++N1)))) BU<|Sy.callT (λw hw=>C5 w0.inn gc gr sl1 s1.e a5 ((g4,3,([]++([Value.int .i64 x1]++[])).toArray)::((gx,tx,(A++([Value.bool false]++Z)).toArray)::(R++N1))) b1 w hw) (λu M hM=>?_)
 subst hM
 rw [← he2]
 refine Sy.nil<|Sy.then_<|Sy.region<|sp J<|sS (.int .i64 x1) (qc 2 0 J J uy3)<|sS (.bool b2) (Quiet.pure (AD .eql _ _ _ .i64 _ _ _ J J J (Ab _ _ _ _ _ hb2.symm)))<|sp J<|sw 3 J (A++([Value.bool b2]++Z)).toArray (Writes.one f 4 (.bool b2) _ _ J kR kR kR J J (by rw [List.size_toArray,List.length_append,hA]; exact Nat.lt_add_of_pos_right (Nat.succ_pos _)) (Aq hA))<|Sy.nil ?_
 have hA2:After HO s b2 ⟨s1.rest,e2⟩:=a1.bind (by
  rw [← hb1, ← hb2]
  cases b1
  ·exact After.mustN b2 (by show e2≠0; rw [he2,if_neg dZ]; split <;> omega)
  ·have e:(⟨s1.rest,e2⟩:RS)=s1:=by rw [he2,if_pos J]
   rw [e]
   exact After.ret b2 s1)
 exact Sy.retT0 J (CRS gc gr gx tx (A++([Value.bool b2]++Z)) sl1 e2 (R++N1)) (λw h=>Sy.St.parts (ls:=[[(gc,134,#[.pointer none,ptr gr,.bool false])],[(gr,253,#[sl1,.int .i64 (e2:Int)])],[(g4,3,([]++([Value.int .i64 x1]++[])).toArray)],[(gx,tx,(A++([Value.bool b2]++Z)).toArray)],R++N1]) (ms:=[[(gc,134,#[.pointer none,ptr gr,.bool false])],[(gx,tx,(A++([Value.bool b2]++Z)).toArray)],[(gr,253,#[sl1,.int .i64 (e2:Int)])],R++N1]) [[(g4,3,([]++([Value.int .i64 x1]++[])).toArray)]] [0,3,1,4,2] kZ (by rfl) (by simp) (by simp) h) (λ_=>⟨b2,⟨s1.rest,e2⟩,sl1,[Value.bool b2],N1,hA2,rfl,λu hu=>by rw [List.mem_singleton.1 hu]; rfl,rfl,by show e2≤200; rw [he2]; split; exact a5; split <;> omega,a6,a7,rfl⟩)
theorem Wrote.le {ok:Bool} {e:Byt} {k k':Nat} {bad bad':Bool} {b b':Byt} (h:Wrote ok e k bad b bad' b') (hk:k≤k'):Wrote ok e k' bad b bad' b':=⟨h.bad,h.bytes,by have:=h.len; omega⟩
def IK {α:Type} (fn:FuncId) (k:Nat) (rep:Rdr→List Value→α→Prop) (ok:α→Bool) (enc:α→Byt) (wt:α→Nat):Prop :=
 ∀ (w0:Base) (gc gw gx f:Nat) (bad:Bool) (s:Slc) (R:AA) (b:Byt) (cs:List Value) (x:α),rep (rdC w0 R) cs x→cs.length=k→OwnAt R gx f cs→BS s b→b.length+wt x≤70368744170000→∀ w,St w0 w (CWS gc gw bad s R) →
  Calls Tryz.prog fn #[ptr gc,pT gx f] w (AQ w0 (WrC gc gw R (ok x) (enc x) (wt x) bad b))
theorem UH {R:AA} {g:Nat} {t:TypeId} {cs:List Value} (h:(g,t,cs.toArray)∈R):OwnAt R g 0 cs:=⟨t,[],[],by rw [List.append_nil]; exact h,rfl⟩
end Wr
end
section
namespace Cu
open Go.ChangeShapes Go.WideShapes Go.ChangeAt Go.RowKit Go.Deep
theorem words_trod {H:Type} {enc:TypeId×Value→H} {P:Program} {W:World} {b:Nat} {sp:Nat→Bool} {held:Bool} {fuel:Nat} {t q:TypeId} {c0 c1 c2 c3:Value} {x:DataW H×List MemPlace} (ht:P.underlying t=some (.array 4 q)) (hq:P.underlying q=some (.int .u64)) (hcq:P.cellsOf q=1)
  (hf:DataW.trod enc P W b sp held fuel t [c0,c1,c2,c3]=some x):∃ n:Nat,n<K4∧[c0,c1,c2,c3]=fws n:=by
 obtain ⟨y0,y1,y2,y3,m,_,g0,g1,g2,g3⟩:=trod_array4 ht hcq hf
 obtain ⟨z0,e0,_,w0⟩:=DataW.trod_int hq g0
 obtain ⟨z1,e1,_,w1⟩:=DataW.trod_int hq g1
 obtain ⟨z2,e2,_,w2⟩:=DataW.trod_int hq g2
 obtain ⟨z3,e3,_,w3⟩:=DataW.trod_int hq g3
 obtain ⟨a,rfl,ha⟩:=I6 w0
 obtain ⟨b,rfl,hb⟩:=I6 w1
 obtain ⟨c,rfl,hc⟩:=I6 w2
 obtain ⟨e,rfl,he⟩:=I6 w3
 simp only [List.cons.injEq,and_true] at e0 e1 e2 e3
 subst e0 e1 e2 e3
 refine ⟨_,Kd a b c e ha hb hc he,?_⟩
 have h:=Cs a b c e ha hb hc he
 rw [Te] at h
 injection h with h
 exact congrArg Array.toList h
end Cu
end
section
namespace Wr
open Go.RowKit Sy
theorem FB {P:Program} {n:Nat} {F:AK} {L:AA} {w0:Base} {ops:Array Oper} {Q:Exit→Act→World→Prop} {ex:Nat→Bool} {fuel:Nat} {listed:Array Bool} (i:Nat) {oi:Oper} (hi0:ops.toList[i]? = some oi) (h:wpD P w0 n ops Q ex (Br F oi.dst undef) L fuel (listed.setIfInBounds i true)) (hc:Df .any ops listed i=true:=by kernel_rfl) (hg:Cm ops F oi=some false:=by kernel_rfl) (hd:Kh n oi.dst=true:=by kernel_rfl)
  (hQ:∀ c v a w,Q (.panic c) (a.put oi.dst v) w→Q (.panic c) a w:=by exact λ_ _ _ _ h=>h):wpD P w0 n ops Q ex F L (fuel+1) listed:=λa w ha hw =>
 Ap i hi0 hc (λc=>hQ c undef) (λw'=>YieldsG.skip (ha.wanted hg)) (h _ _ (ha.put hd undef) hw)
theorem Me (w:World) (F:AK) (o:Oper) (x y:Operand) (a b:Nat) (i:Bool) (c d:Nat) (j:Bool) {yt:TypeId} (ho:o.op=.binOp .neq 57 x y yt) (hx:evF F x=Cu.pv a b i) (hy:evF F y=Cu.pv c d j) (ha:a<Cu.K4) (hb:b<Cu.K4) (hc:c<Cu.K4) (hd:d<Cu.K4):(execOp (evF F) o).run Tryz.prog w=.ok (.value (.bool (!Cu.sameB a b i c d j))) w:=by
 have h1:=Cu.run_eqGuard_pv .neq x y a b i c d j w
 have h2:=Cu.run_eql_pv w a b i c d j ha hb hc hd
 have h3:(binOp .neq 57 (Cu.pv a b i) (Cu.pv c d j)).run Tryz.prog w=.ok (.bool (!Cu.sameB a b i c d j)) w:=by
  unfold Cu.pv at h2 ⊢
  rw [run_eql_struct] at h2
  rw [run_neq_struct]
  generalize (Op.equalIn 10000 57 (Value.agg (Cu.pcs a b i)) (Value.agg (Cu.pcs c d j))).run Tryz.prog w=r at h2 ⊢
  revert h2
  cases r <;> simp <;> intros <;> simp_all
 unfold execOp
 simp only [ho,hx,hy,Sem.run_bind,h1,h3,Result.andThen_ok,Sem.run_pure]
structure MPt where
 x:Nat
 y:Nat
 i:Bool
def lPT (p:MPt):List Value:=Cu.fws p.x++(Cu.fws p.y++[Value.bool p.i])
def O3 (_:Rdr) (cs:List Value) (p:MPt):Prop:=cs=lPT p∧p.x<Cu.K4∧p.y<Cu.K4
def Ek (p:MPt):Bool:=Cu.rightB p.x p.y p.i && !p.i
def CN (p:MPt):Byt:=Cu.encS (Cu.dec p.x p.y p.i)
theorem CJ (p:MPt):(CN p).length=33:=Cu.encS_length _
def mPt:Cu.Pt→MPt
 | none=>⟨0,0,true⟩
 | some (x,y)=>⟨x.val,y.val,false⟩
theorem Mi (P:Cu.Pt):Cu.ptv P=.agg (lPT (mPt P)).toArray:=by cases P <;> rfl
theorem La (P:Cu.Pt):(mPt P).x<Cu.K4∧(mPt P).y<Cu.K4:=by
 cases P with
 | none=>exact ⟨by decide,by decide⟩
 | some p=>exact ⟨Cu.lt4 p.1,Cu.lt4 p.2⟩
def ptP:Ps MPt:=AJ (A_ 33) λb=>AJ (BJ (!(mPt (Cu.decP b)).i)) λ_=>BO (mPt (Cu.decP b))
theorem KH (b:Byt):Ek (mPt (Cu.decP b))=!(mPt (Cu.decP b)).i:=by
 have hon:=Cu.decP_on b
 unfold Ek
 cases hp:Cu.decP b with
 | none=>rfl
 | some p =>
  rw [hp] at hon
  have h:Cu.rightB p.1.val p.2.val false=true:=by
   unfold Cu.rightB
   rw [if_neg dZ]
   simp only [Bool.and_eq_true,decide_eq_true_eq]
   exact ⟨⟨p.1.isLt,p.2.isLt⟩,congrArg Fin.val hon⟩
  show (Cu.rightB p.1.val p.2.val false && !false)=_
  rw [h]
  rfl
theorem Cb (p:MPt):(lPT p).length=9:=rfl
theorem CD (p:MPt):∀ u∈lPT p,u.oneCell'=true:=λu hu=>by
 simp only [lPT,Cu.fws,List.mem_append,List.mem_cons,List.not_mem_nil,or_false] at hu
 rcases hu with ((rfl|rfl|rfl|rfl) | (rfl|rfl|rfl|rfl) | rfl) <;> rfl
theorem Ib (x y:Nat) (i:Bool) (h:Cu.rightB x y i=true):(!Cu.sameB x y i 0 0 true)=!i:=by
 cases i with
 | false=>unfold Cu.sameB; rw [show (false == true)=false from rfl,Bool.and_false,Bool.and_false]
 | true =>
  unfold Cu.rightB at h
  rw [if_pos J,Bool.and_eq_true,decide_eq_true_eq,decide_eq_true_eq] at h
  obtain ⟨rfl,rfl⟩:=h
  rfl
theorem Bw (x:Byt):∀ u∈x.map bv,u.oneCell'=true:=λu hu=>by obtain ⟨y,_,rfl⟩:=List.mem_map.1 hu; rfl
theorem MR:DK 155 9 O3 Ek CN (λ_=>33):=λw0 gc gw gx f bad s R b cs p hx _ hc hb hl w hw=>by
 obtain ⟨rfl,h1,h2⟩:=hx
 obtain ⟨E,hE⟩:=xE (CN p)
 have hEl:E.length=33:=by rw [hE]; exact CJ p
 have hEm:(E.map bv).length=33:=by rw [List.length_map,hEl]
 rw [← hE]
 refine Sy.enterT (args:=[ptr gc,pT gx f]) hw Tryz.func155 J kL<|sC<|sp J<|sp J<|sS (Cu.pv p.x p.y p.i) (Bd (R:=R) (cs:=lPT p) hc Ar J J Am)<|sS (.agg (E.map bv).toArray) (qg (λw' _=>by rw [hE]; exact Cu.enc_any w' p.x p.y p.i h1 h2))<|sM 332 ((List.replicate 33 (0:UInt8)).map bv).toArray (λg4=>?_)
 refine Sy.permS List.perm_append_comm<|sw 0 J (E.map bv).toArray (Writes.row 332 (E.map bv) 33 _ _ J kR kR kR hEm kZ (Bw E))<|Sy.permS (M:=CWS gc gw bad s (R++[(g4,332,(E.map bv).toArray)])) (permB.trans (List.Perm.of_eq eqCW))<|sA<|sp J<|sP (.slice (pA g4) 33 33)<|Sy.callT (λw hw=>PA w0.inn gc gw bad s (R++[(g4,332,(E.map bv).toArray)]) b E _ ((FM CM).byt hEl dZ) hb (by rw [hEl]; omega) w hw) (λu M hM=>?_)
 obtain ⟨s1,bad1,b1,q1,q2,rfl⟩:=hM
 rw [hEl] at q1
 refine sG<|Sy.seq<|sC<|sp J<|sS (.bool false) (qg (λw hw=>CX w0.inn gc _ _ (List.mem_cons_self ..) w hw))<|sG<|sU<|Sy.skip<|Sy.then_ ?_
 obtain ⟨b2,hb2⟩:=xE (Cu.rightB p.x p.y p.i)
 have ld:∀ {F:AK} {L:AA} {o:Oper} {x:Operand},(∀ y∈R,y∈L)→o.op=.load 57 x→evF F x=pT gx f→Quiet Tryz.prog w0.inn F L o (Cu.pv p.x p.y p.i):=λhR ho hx=>Bd (R:=R) (cs:=lPT p) hc hR J ho Am hx
 refine Sy.regionD (λj=>j == 12) kR<|sa 0 J J<|sa 1 J J<|sa 2 J J<|se 3 [4,5,6,7,8,9,10,11,12] rfl (Cu.pv p.x p.y p.i) (ld (λy hy=>Ar y (inA hy)) J J)<|se 4 [5,6,7,8,9,10,11,12] rfl (.bool b2) (qg (λw' _=>by rw [hb2]; exact Cu.right_b w' p.x p.y p.i h1 h2))<|sa 5 J J ?_
 cases b2
 case' false =>
  have ho:Ek p=false:=by unfold Ek; rw [← hb2]; rfl
  refine FB 6 J<|FB 7 J<|FB 8 J<|FB 9 J<|FB 10 J<|sb 11 J (.bool false)<|Sy.soleD 12 J (λQ2 hq2=>?_)
  refine Sy.callT (λw hw=>Bt w0.inn gc gw bad1 false s1 (R++[(g4,332,(E.map bv).toArray)]) w hw) (λu M hM=>?_)
 case' true =>
  have ho:Ek p=!p.i:=by unfold Ek; rw [← hb2]; rfl
  obtain ⟨b3,hb3⟩:=xE (!p.i)
  refine sa 6 J J<|sa 7 J J<|se 8 [10,11,12] rfl (Cu.pv p.x p.y p.i) (ld (λy hy=>Ar y (inA hy)) J J)<|se 9 [10,11,12] rfl (Cu.pv 0 0 true) (qg (λw' _=>Cu.zero_c w'))<|sv 10 J (.bool b3) (λw'=>by rw [hb3, ← Ib p.x p.y p.i hb2.symm]; exact Me w' _ _ _ _ p.x p.y p.i 0 0 true J J J h1 h2 dZ dZ)<|sb 11 J (.bool b3)<|Sy.soleD 12 J (λQ2 hq2=>?_)
  refine Sy.callT (λw hw=>Bt w0.inn gc gw bad1 b3 s1 (R++[(g4,332,(E.map bv).toArray)]) w hw) (λu M hM=>?_)
 all_goals
  subst hM
  refine hq2 _ _<|sE ?_
 ·have q:=q1.then_ (Wrote.must b3 bad1 b1)
  rw [Bool.true_and,List.append_nil,hb3, ← ho] at q
  exact Sy.retT0 J (CWS gc gw (bad1 || !b3) s1 R) (λ_ h=>C1 h) (λ_=>⟨s1,bad1 || !b3,b1,by rw [hb3, ← ho]; exact q,q2,rfl⟩)
 ·have q:=q1.then_ (Wrote.must false bad1 b1)
  rw [Bool.true_and,List.append_nil] at q
  exact Sy.retT0 J (CWS gc gw (bad1 || !false) s1 R) (λ_ h=>C1 h) (λ_=>⟨s1,bad1 || !false,b1,by rw [ho]; exact q,q2,rfl⟩)
theorem wMd {P:Program} {F:AK} {o:Oper} {g:Nat} {t:TypeId} (ty:TypeId) (A z v Z:List Value) (k f:Nat) (x y:Operand) (ho:o.op=.store ty x y) (hx:evF F x=pT g f) (hy:evF F y=.agg v.toArray) (hi:(P.info? ty).map (·.size)=some k) (hA:A.length=f) (hz:z.length=k) (hv:v.length=k) (h1:∀ u∈v,u.oneCell'=true):Sy.Writes P F o g t (A++(z++Z)).toArray (A++(v++Z)).toArray :=
 Sy.Writes.store f ty v.toArray x y ho hx hy (by rw [hi,List.size_toArray,hv]) (by rw [List.size_toArray,List.size_toArray,List.length_append,List.length_append]; omega) (by rw [List.all_toArray,List.all_eq_true]; exact h1) (by show B9 _ f v=_; exact DZ hA om)
theorem Ca {A v Z:List Value} {f k:Nat} (hA:A.length=f) (hv:v.length=k):((A++(v++Z)).drop f).take k=v:=by
 subst hA hv
 rw [List.drop_left,List.take_left]
def T5 (n:Nat) (_:Rdr) (cs:List Value) (b:Byt):Prop:=cs=b.map bv∧b.length=n
theorem PC (n:Nat) (hn:n≤1000000) (hn0:0<n) (w0:Base) (gc gr gx f:Nat) (tx:TypeId) (A Z:List Value) (y:Byt) (hy:y.length=n) (sl:Value) (s:RS) (R S:AA) (hS:∀ b∈S,b∈R) (hA:A.length=f) (he:s.e≤200) (hl:s.rest.length≤70368744177664) (hv:BytR (rdC w0 S) sl s.rest) (w:World) (hw:St w0 w (CRS gc gr gx tx (A++(y.map bv++Z)) sl s.e R)) :
  AL 139 #[ptr gc,.slice (some ⟨gx,f,none⟩) n n] w (AQ w0 (RdT n (T5 n) (A_ n) w0 gc gr gx tx A Z s R S)):=by
 refine Sy.enterT (args:=[ptr gc,.slice (some ⟨gx,f,none⟩) n n]) hw Tryz.func139 J kL<|sC<|sp J<|sS (.bool true) (qg (λw hw=>CL w0.inn gc gr _ _ (List.mem_cons_self ..) w hw))<|sG<|sT<|Sy.region<|sp J<|sp J<|sp J<|sP (pT gc 1)<|sS (ptr gr) (qc 0 1 J J BD)<|sp J<|sP (.int .i64 (n:Int))<|Sy.callT (λw hw=>J_ w0.inn gr sl s ((gc,134,#[.pointer none,ptr gr,.bool false])::(gx,tx,(A++(y.map bv++Z)).toArray)::R) S (λb h=>List.mem_cons_of_mem _ (List.mem_cons_of_mem _ (hS b h))) n hn he hl hv w (hw.perm permCR)) (λu M hM=>?_)
 obtain ⟨x,s',sl',N,q1,⟨q2,q2'⟩,q3,q4,q5,rfl⟩:=hM
 refine Sy.permS (M:=CRS gc gr gx tx (A++(y.map bv++Z)) sl' s'.e (R++N)) permCR.symm ?_
 have hyb:∀ u∈y.map bv,u.oneCell'=true:=Bw y
 rcases q2' with ⟨rfl,rfl,rfl⟩ | hx
 ·refine sS (.int .i64 0) (Quiet.pure (λw=>M0 w _ _ _ _ gx f n J J J)) ?_
  refine Sy.nil ?_
  exact Sy.retT0 J (CRS gc gr gx tx (A++(y.map bv++Z)) sl' s'.e (R++[])) (λ_ h=>h) (λ_=>⟨y,s',sl',y.map bv,[],q1.as (λr hp=>by have:=(D1 hp).1; rw [List.length_nil] at this; omega),by rw [List.length_map,hy],hyb,⟨rfl,hy⟩,q3,q4,q5,rfl⟩)
 ·have hb:=q2.byt
  obtain ⟨B,m,cp,rfl,h2,h3,h4,h5⟩:=hb
  obtain ⟨gb,ob,rfl,hq⟩:=h5 (by intro e; rw [e] at hx; rw [List.length_nil] at hx; omega)
  obtain rfl:n=m:=om
  refine Sy.writeV kR 1 gx tx _ (A++(x.map bv++Z)).toArray (.int .i64 (n:Int)) J (Sv (R:=N) _ _ 27 27 5 J Ay kR 1 gx f n n tx _ _ J J gb ob n cp J x (λj u hj=>.inr (by
   rw [List.getElem?_map] at hj
   cases hxj:x[j]? with
   | none=>rw [hxj] at hj; cases hj
   | some y=>rw [hxj] at hj; cases hj; exact hq j y hxj)) (λb h=>Dh b (List.mem_append_right _ h)) hx J (by rw [List.size_toArray,List.length_append,List.length_append,hA,List.length_map,hy]; omega) (DZ hA (by rw [List.length_map,List.length_map,hy,hx]))) ?_
  refine Sy.nil ?_
  exact Sy.retT0 J (CRS gc gr gx tx (A++(x.map bv++Z)) sl' s'.e (R++N)) (λ_ h=>h) (λ_=>⟨x,s',sl',x.map bv,N,q1,by rw [List.length_map,hx],λu hu=>by obtain ⟨y,_,rfl⟩:=List.mem_map.1 hu; rfl,⟨rfl,hx⟩,q3,q4,q5,rfl⟩)
theorem MS:B4 155 9 (lPT ⟨0,0,false⟩) O3 ptP:=λw0 gc gr gx f tx A Z sl s R S hS hA he hl hv w hw=>by
 obtain ⟨E,hE⟩:=xE (CN ⟨0,0,false⟩)
 have hEl:E.length=33:=by rw [hE]; exact CJ _
 have hEm:(E.map bv).length=33:=by rw [List.length_map,hEl]
 refine Sy.enterT (args:=[ptr gc,pT gx f]) hw Tryz.func155 J kL<|sC<|sp J<|sp J<|sS (Cu.pv 0 0 false) (Quiet.mid 1 gx f 9 tx 57 (A++(lPT ⟨0,0,false⟩++Z)) (lPT ⟨0,0,false⟩) _ _ J kR J Am J kR (Ca hA J) (by rw [List.length_append,List.length_append,hA,Cb]; omega))<|sS (.agg (E.map bv).toArray) (qg (λw' _=>by rw [hE]; exact Cu.enc_any w' 0 0 false dZ dZ))<|sM 332 ((List.replicate 33 (0:UInt8)).map bv).toArray (λg4=>?_)
 refine Sy.permS List.perm_append_comm<|sw 0 J ([]++(E.map bv++[])).toArray (by rw [List.nil_append,List.append_nil]; exact Writes.row 332 (E.map bv) 33 _ _ J kR kR kR hEm kZ (Bw E))<|sA<|sp J<|sP (.slice (pA g4) 33 33) ?_
 have p4:((g4,332,([]++(E.map bv++[])).toArray)::CRS gc gr gx tx (A++(lPT ⟨0,0,false⟩++Z)) sl s.e R).Perm (CRS gc gr g4 332 ([]++(E.map bv++[])) sl s.e ((gx,tx,(A++(lPT ⟨0,0,false⟩++Z)).toArray)::R)):=PL
 refine Sy.permS p4<|Sy.callT (λw hw=>PC 33 dZ dZ w0.inn gc gr g4 0 332 [] [] E hEl sl s ((gx,tx,(A++(lPT ⟨0,0,false⟩++Z)).toArray)::R) S (λb h=>List.mem_cons_of_mem _ (hS b h)) J he hl hv w hw) (λu M hM=>?_)
 obtain ⟨x,s1,sl1,cs1,N1,a1,a2,a3,⟨rfl,a4⟩,a5,a6,a7,rfl⟩:=hM
 obtain ⟨m,hm⟩:=xE (mPt (Cu.decP x))
 have hlt:=La (Cu.decP x)
 have hokm:=KH x
 rw [← hm] at hlt hokm
 refine sG<|Sy.seq<|sC<|sp J<|sS (.bool true) (qg (λw hw=>CL w0.inn gc gr _ _ (List.mem_cons_self ..) w hw))<|sG<|sT<|Sy.region<|sp J<|sP (.slice (pA g4) 33 33)<|sS (.tuple #[.agg (lPT m).toArray,.bool (Cu.decOk x)]) (qg (λw' hw'=>by
  rw [hm, ← Mi]
  refine Cu.decode_any w' (pA g4) x 33 33 a4 (λ_=>?_) (Nat.le_refl _)
  have hf:=B_ hw' (R:=[(g4,332,([]++(x.map bv++[])).toArray)]) (λy hy=>by rw [List.mem_singleton.1 hy]; exact List.mem_cons_of_mem _ (List.mem_cons_self ..))
  have hc:∀ j u,x[j]? = some u→g4<w'.heap.size∧w'.cell? ⟨g4,0+j,none⟩=some (bv u):=λj u hu=>hf _ _ _ ⟨332,_,List.mem_singleton.2 J,by rw [Nat.zero_add,List.getElem?_toArray,List.nil_append,List.append_nil,List.getElem?_map,hu]; rfl⟩
  exact ⟨g4,0,rfl,(hc 0 _ (List.getElem?_eq_getElem om)).1,λj u hu=>(hc j u hu).2⟩))<|sp J<|sp J<|sp J<|sp J<|sw 3 J (A++(lPT m++Z)).toArray (wMd 57 A (lPT ⟨0,0,false⟩) (lPT m) Z 9 f _ _ J kR kR kR hA J J (CD m)) ?_
 refine Sy.nil<|Sy.then_ ?_
 obtain ⟨b2,hb2⟩:=xE (Cu.rightB m.x m.y m.i)
 obtain ⟨ok,hok⟩:=xE (!m.i)
 obtain ⟨e2,he2⟩:=xE (if ok=true then s1.e else if s1.e=0 then 120 else s1.e)
 have hA2:After ptP s m ⟨s1.rest,e2⟩:=a1.bind (by
  rw [← hm, ← hok]
  cases ok
  ·exact After.mustN m (by show e2≠0; rw [he2,if_neg dZ]; split <;> omega)
  ·have e:(⟨s1.rest,e2⟩:RS)=s1:=by rw [he2,if_pos J]
   rw [e]
   exact After.ret m s1)
 have he22:e2≤200:=by rw [he2]; split; exact a5; split <;> omega
 have ld:∀ {F:AK} {o:Oper} {x':Operand},o.op=.load 57 x'→evF F x'=pT gx f→Quiet Tryz.prog w0.inn F (CRS gc gr g4 332 ([]++(x.map bv++[])) sl1 s1.e ((gx,tx,(A++(lPT m++Z)).toArray)::(R++N1))) o (Cu.pv m.x m.y m.i):=λho hx=>Quiet.mid 3 gx f 9 tx 57 (A++(lPT m++Z)) (lPT m) _ _ ho hx J Am J kR (Ca hA J) (by rw [List.length_append,List.length_append,hA,Cb]; omega)
 have p5:(CRS gc gr g4 332 ([]++(x.map bv++[])) sl1 s1.e ((gx,tx,(A++(lPT m++Z)).toArray)::(R++N1))).Perm (CRN gc gr sl1 s1.e ((g4,332,([]++(x.map bv++[])).toArray)::((gx,tx,(A++(lPT m++Z)).toArray)::(R++N1)))):=BU
 refine Sy.regionD (λj=>j == 12) kR<|sa 0 J J<|sa 1 J J<|sa 2 J J<|se 3 [4,5,6,7,8,9,10,11,12] rfl (Cu.pv m.x m.y m.i) (ld J kR)<|se 4 [5,6,7,8,9,10,11,12] rfl (.bool b2) (qg (λw' _=>by rw [hb2]; exact Cu.right_b w' m.x m.y m.i hlt.1 hlt.2))<|sa 5 J J ?_
 cases b2
 case' false =>
  have ho:Ek m=false:=by unfold Ek; rw [← hb2]; rfl
  obtain rfl:ok=false:=by rw [hok, ← hokm,ho]
  refine FB 6 J<|FB 7 J<|FB 8 J<|FB 9 J<|FB 10 J<|sb 11 J (.bool false)<|Sy.soleD 12 J (λQ2 hq2=>?_)
  refine Sy.permS p5<|Sy.callT (λw hw=>C5 w0.inn gc gr sl1 s1.e a5 ((g4,332,([]++(x.map bv++[])).toArray)::((gx,tx,(A++(lPT m++Z)).toArray)::(R++N1))) false w hw) (λu M hM=>?_)
 case' true =>
  refine sa 6 J J<|sa 7 J J<|se 8 [10,11,12] rfl (Cu.pv m.x m.y m.i) (ld J kR)<|se 9 [10,11,12] rfl (Cu.pv 0 0 true) (qg (λw' _=>Cu.zero_c w'))<|sv 10 J (.bool ok) (λw'=>by rw [hok, ← Ib m.x m.y m.i hb2.symm]; exact Me w' _ _ _ _ m.x m.y m.i 0 0 true J J J hlt.1 hlt.2 dZ dZ)<|sb 11 J (.bool ok)<|Sy.soleD 12 J (λQ2 hq2=>?_)
  refine Sy.permS p5<|Sy.callT (λw hw=>C5 w0.inn gc gr sl1 s1.e a5 ((g4,332,([]++(x.map bv++[])).toArray)::((gx,tx,(A++(lPT m++Z)).toArray)::(R++N1))) ok w hw) (λu M hM=>?_)
 all_goals
  subst hM
  rw [← he2]
  refine hq2 _ _<|sE ?_
  exact Sy.retT0 J (CRS gc gr gx tx (A++(lPT m++Z)) sl1 e2 (R++N1)) (λw h=>Sy.St.parts (ls:=[[(gc,134,#[.pointer none,ptr gr,.bool false])],[(gr,253,#[sl1,.int .i64 (e2:Int)])],[(g4,332,([]++(x.map bv++[])).toArray)],[(gx,tx,(A++(lPT m++Z)).toArray)],R++N1]) (ms:=[[(gc,134,#[.pointer none,ptr gr,.bool false])],[(gx,tx,(A++(lPT m++Z)).toArray)],[(gr,253,#[sl1,.int .i64 (e2:Int)])],R++N1]) [[(g4,332,([]++(x.map bv++[])).toArray)]] [0,3,1,4,2] kZ (by rfl) (by simp) (by simp) h) (λ_=>⟨m,⟨s1.rest,e2⟩,sl1,lPT m,N1,hA2,rfl,CD m,⟨rfl,hlt.1,hlt.2⟩,he22,a6,a7,rfl⟩)
theorem ES (w:World) (F:AK) (o:Oper) (x y:Operand) (a b:Ao) (ha:a.length=32) (hb:b.length=32) {yt:TypeId} (ho:o.op=.binOp .eql 37 x y yt) (hx:evF F x=.agg (a.map bv).toArray) (hy:evF F y=.agg (b.map bv).toArray):(execOp (evF F) o).run Tryz.prog w=.ok (.value (.bool (decide (a=b)))) w:=by
 have h1:(eqGuard .eql 37 x y (.agg (a.map bv).toArray) (.agg (b.map bv).toArray)).run Tryz.prog w=.ok () w:=by go_simp
 have h2:(binOp .eql 37 (.agg (a.map bv).toArray) (.agg (b.map bv).toArray)).run Tryz.prog w=.ok (.bool (decide (a=b))) w:=by
  have h:=run_equalIn_bytes (P:=Tryz.prog) w 9998 37 5 32 DI uy5 (λW=>kZ) a b ha hb
  rw [run_eql_struct,show (10000:Nat)=9998+2 from rfl,show (Op.equalIn (9998+2) 37 (.agg (a.map bv).toArray) (.agg (b.map bv).toArray)).run Tryz.prog w=_ from h]
  by_cases e:a=b <;> simp [e]
 unfold execOp
 simp only [ho,hx,hy,Sem.run_bind,h1,h2,Result.andThen_ok,Sem.run_pure]
def z32:Byt:=List.replicate 32 0
def FD (p:MPt):Bool:=Cu.sameB p.x p.y p.i 0 0 false
structure MTag where
 blind:Bool
 id:Byt
 pt:MPt
def cTG (t:MTag):List Value:=[.bool t.blind]++(t.id.map bv++lPT t.pt)
def Hd (_:Rdr) (cs:List Value) (t:MTag):Prop:=cs=cTG t∧t.id.length=32∧t.pt.x<Cu.K4∧t.pt.y<Cu.K4
def Nv (t:MTag):Bool:=if t.blind=true then Ek t.pt && decide (t.id=z32) else FD t.pt
def IA (t:MTag):Byt:=[trB t.blind]++(if t.blind=true then CN t.pt else t.id)
def J9:Ps MTag:=AJ HO λb=>if b=true then AJ ptP λp=>BO ⟨true,z32,p⟩ else AJ (A_ 32) λd=>BO ⟨false,d,⟨0,0,false⟩⟩
structure MAmt where
 blind:Bool
 value:Nat
 pt:MPt
def cAM (t:MAmt):List Value:=[.bool t.blind]++([.int .u64 (t.value:Int)]++lPT t.pt)
def He (_:Rdr) (cs:List Value) (t:MAmt):Prop:=cs=cAM t∧t.value<18446744073709551616∧t.pt.x<Cu.K4∧t.pt.y<Cu.K4
def LO (t:MAmt):Bool:=if t.blind=true then Ek t.pt && decide (t.value=0) else FD t.pt
def Gk (t:MAmt):Byt:=[trB t.blind]++(if t.blind=true then CN t.pt else nb 8 t.value)
def JJ:Ps MAmt:=AJ HO λb=>if b=true then AJ ptP λp=>BO ⟨true,0,p⟩ else AJ (Bj 8) λd=>BO ⟨false,d,⟨0,0,false⟩⟩
theorem Ty:IK 92 42 Hd Nv IA (λ_=>34):=λw0 gc gw gx f bad s R b cs x hx _ hc hb hl w hw=>by
 obtain ⟨bl,id,p⟩:=x
 obtain ⟨rfl,h1,h2,h3⟩:=hx
 dsimp only at h1 h2 h3 hl
 have e1:(id.map bv).length=32:=by rw [List.length_map,h1]
 have c0:OwnAt R gx f ([.bool bl]++(id.map bv++lPT p)):=hc
 have c1:OwnAt R gx (f+1) (id.map bv++lPT p):=c0.right (n:=1) rfl
 have c2:OwnAt R gx (f+33) (lPT p):=by have q:=c1.right e1; rwa [Nat.add_assoc] at q
 have X0:rdC w0.inn R gx f (.bool bl):=(c0.at w0.inn).one
 have X1:XAt (rdC w0.inn R) gx (f+1) (id.map bv):=(c1.at w0.inn).left
 have X2:XAt (rdC w0.inn R) gx (f+33) (lPT p):=c2.at w0.inn
 refine Sy.enterT (args:=[ptr gc,pT gx f]) hw Tryz.func92 J kL<|sC<|sp J<|sp J<|sp J<|sP (pT gx f)<|Sy.callT (λw hw=>MD w0.inn gc gw gx f bad s R b bl c0.left hb om w hw) (λu M hM=>?_)
 obtain ⟨s1,bad1,b1,q1,p1,rfl⟩:=hM
 have l1:=q1.len
 refine sA<|sp J<|sp J<|sP (pT gx f)<|sS (.bool bl) (AH (R:=R) X0 Ar J uy4)<|sG ?_
 cases bl
 case' true =>
  refine sT<|sC<|sp J<|sp J<|sp J<|sP (pT gx (f+33))<|Sy.callT (λw hw=>MR w0.inn gc gw gx (f+33) bad1 s1 R b1 (lPT p) p ⟨rfl,h2,h3⟩ rfl X2 p1 (by show _+33≤_; omega) w hw) (λu M hM=>?_)
  obtain ⟨s2,bad2,b2,q2,p2,rfl⟩:=hM
  obtain ⟨ok,hok⟩:=xE (decide (id=z32))
  refine Sy.nil<|Sy.then_<|Sy.region<|sp J<|sp J<|sp J<|sP (pT gx (f+1))<|sS (.agg (id.map bv).toArray) (Bd (R:=R) (cs:=id.map bv) X1 Ar e1 J DI)<|sP (.agg (z32.map bv).toArray)<|sS (.bool ok) (Quiet.pure (λw=>by rw [hok]; exact ES w _ _ _ _ id z32 h1 J J J J))<|Sy.callT (λw hw=>Bt w0.inn gc gw bad2 ok s2 R w hw) (λu M hM=>?_)
  subst hM
  refine Sy.nil ?_
  have q:=q1.then_ (q2.then_ (Wrote.must ok bad2 b2))
  rw [Bool.true_and,List.append_nil,hok] at q
  exact Sy.retT0 J (CWS gc gw (bad2 || !ok) s2 R) (λ_ h=>h) (λ_=>⟨s2,bad2 || !ok,b2,by rw [hok]; exact q,p2,rfl⟩)
 refine sU<|sC<|sp J<|sp J<|sp J<|sP (pT gx (f+1))<|Sy.callT (λw hw=>ED w0.inn gc gw gx (f+1) bad1 s1 R b1 id h1 X1 p1 om w hw) (λu M hM=>?_)
 obtain ⟨s2,bad2,b2,q2,p2,rfl⟩:=hM
 obtain ⟨ok,hok⟩:=xE (FD p)
 refine Sy.nil<|Sy.then_<|Sy.region<|sp J<|sp J<|sp J<|sP (pT gx (f+33))<|sS (Cu.pv p.x p.y p.i) (Bd (R:=R) (cs:=lPT p) X2 Ar J J Am)<|sP (Cu.pv 0 0 false)<|sS (.bool ok) (Quiet.pure (λw=>by rw [hok]; exact Cu.eql_pt w _ _ _ _ p.x p.y p.i 0 0 false J J J h2 h3 dZ dZ))<|Sy.callT (λw hw=>Bt w0.inn gc gw bad2 ok s2 R w hw) (λu M hM=>?_)
 subst hM
 refine Sy.nil ?_
 have q:=(q1.then_ (q2.then_ (Wrote.must ok bad2 b2))).le (k':=34) om
 rw [Bool.true_and,Bool.true_and,List.append_nil,hok] at q
 exact Sy.retT0 J (CWS gc gw (bad2 || !ok) s2 R) (λ_ h=>h) (λ_=>⟨s2,bad2 || !ok,b2,by rw [hok]; exact q,p2,rfl⟩)
theorem Kx:IK 93 11 He LO Gk (λ_=>34):=λw0 gc gw gx f bad s R b cs x hx _ hc hb hl w hw=>by
 obtain ⟨bl,va,p⟩:=x
 obtain ⟨rfl,h1,h2,h3⟩:=hx
 dsimp only at h1 h2 h3 hl
 have c0:OwnAt R gx f ([.bool bl]++([uZ (va:Int)]++lPT p)):=hc
 have c1:OwnAt R gx (f+1) ([uZ (va:Int)]++lPT p):=c0.right (n:=1) rfl
 have c2:OwnAt R gx (f+2) (lPT p):=c1.right (n:=1) rfl
 have X0:rdC w0.inn R gx f (.bool bl):=(c0.at w0.inn).one
 have X1:rdC w0.inn R gx (f+1) (uZ (va:Int)):=(c1.at w0.inn).one
 have X2:XAt (rdC w0.inn R) gx (f+2) (lPT p):=c2.at w0.inn
 refine Sy.enterT (args:=[ptr gc,pT gx f]) hw Tryz.func93 J kL<|sC<|sp J<|sp J<|sp J<|sP (pT gx f)<|Sy.callT (λw hw=>MD w0.inn gc gw gx f bad s R b bl c0.left hb om w hw) (λu M hM=>?_)
 obtain ⟨s1,bad1,b1,q1,p1,rfl⟩:=hM
 have l1:=q1.len
 refine sA<|sp J<|sp J<|sP (pT gx f)<|sS (.bool bl) (AH (R:=R) X0 Ar J uy4)<|sG ?_
 cases bl
 case' true =>
  refine sT<|sC<|sp J<|sp J<|sp J<|sP (pT gx (f+2))<|Sy.callT (λw hw=>MR w0.inn gc gw gx (f+2) bad1 s1 R b1 (lPT p) p ⟨rfl,h2,h3⟩ rfl X2 p1 (by show _+33≤_; omega) w hw) (λu M hM=>?_)
  obtain ⟨s2,bad2,b2,q2,p2,rfl⟩:=hM
  obtain ⟨ok,hok⟩:=xE (decide (va=0))
  refine Sy.nil<|Sy.then_<|Sy.region<|sp J<|sp J<|sp J<|sP (pT gx (f+1))<|sS (uZ (va:Int)) (AH (R:=R) X1 Ar J CF)<|sS (.bool ok) (Quiet.pure (AD .eql _ _ _ .u64 _ _ _ J J J (Ab _ _ _ _ _ (by rw [hok]; exact decide_eq_decide.2 om))))<|Sy.callT (λw hw=>Bt w0.inn gc gw bad2 ok s2 R w hw) (λu M hM=>?_)
  subst hM
  refine Sy.nil ?_
  have q:=q1.then_ (q2.then_ (Wrote.must ok bad2 b2))
  rw [Bool.true_and,List.append_nil,hok] at q
  exact Sy.retT0 J (CWS gc gw (bad2 || !ok) s2 R) (λ_ h=>h) (λ_=>⟨s2,bad2 || !ok,b2,by rw [hok]; exact q,p2,rfl⟩)
 refine sU<|sC<|sp J<|sp J<|sp J<|sP (pT gx (f+1))<|Sy.callT (λw hw=>H2 w0.inn gc gw gx (f+1) bad1 s1 R b1 va h1 X1 p1 om w hw) (λu M hM=>?_)
 obtain ⟨s2,bad2,b2,q2,p2,rfl⟩:=hM
 obtain ⟨ok,hok⟩:=xE (FD p)
 refine Sy.nil<|Sy.then_<|Sy.region<|sp J<|sp J<|sp J<|sP (pT gx (f+2))<|sS (Cu.pv p.x p.y p.i) (Bd (R:=R) (cs:=lPT p) X2 Ar J J Am)<|sP (Cu.pv 0 0 false)<|sS (.bool ok) (Quiet.pure (λw=>by rw [hok]; exact Cu.eql_pt w _ _ _ _ p.x p.y p.i 0 0 false J J J h2 h3 dZ dZ))<|Sy.callT (λw hw=>Bt w0.inn gc gw bad2 ok s2 R w hw) (λu M hM=>?_)
 subst hM
 refine Sy.nil ?_
 have q:=(q1.then_ (q2.then_ (Wrote.must ok bad2 b2))).le (k':=34) om
 rw [Bool.true_and,Bool.true_and,List.append_nil,hok] at q
 exact Sy.retT0 J (CWS gc gw (bad2 || !ok) s2 R) (λ_ h=>h) (λ_=>⟨s2,bad2 || !ok,b2,by rw [hok]; exact q,p2,rfl⟩)
theorem Ja {A v Z:List Value} {f k:Nat} (hA:A.length=f) (hv:v.length=k):f+k≤(A++(v++Z)).length:=by rw [List.length_append,List.length_append,hA,hv]; omega
theorem Tz:B4 92 42 ([Value.bool false]++(Z32++lPT ⟨0,0,false⟩)) Hd J9:=λw0 gc gr gx f tx A Z sl s R S hS hA he hl hv w hw=>by
 refine Sy.enterT (args:=[ptr gc,pT gx f]) hw Tryz.func92 J kL<|sC<|sp J<|sp J<|sp J<|sP (pT gx f)<|Sy.callT (λw hw=>ME w0.inn gc gr gx f tx A (Z32++(lPT ⟨0,0,false⟩++Z)) sl s R S hS hA he hl hv w (by simpa only [List.append_assoc] using hw)) (λu M hM=>?_)
 obtain ⟨x1,s1,sl1,cs1,N1,a1,n1,o1,rfl,e1,h1,y1,rfl⟩:=hM
 have hS1:∀ b∈S,b∈R++N1:=λb h=>List.mem_append_left _ (hS b h)
 refine sA<|sp J<|sp J<|sP (pT gx f)<|sS (.bool x1) (Quiet.cell 1 gx f tx 4 (A++([Value.bool x1]++(Z32++(lPT ⟨0,0,false⟩++Z)))).toArray _ _ J kR J uy4 J _ (by rw [List.getElem?_toArray,List.getElem?_append_right om,hA,Nat.sub_self]; rfl)) ?_
 refine sG ?_
 cases x1
 case' true =>
  have A1:(A++[Value.bool true]).length=f+1:=by rw [List.length_append,hA]; rfl
  have A2:(A++[Value.bool true]++Z32).length=f+33:=by rw [List.length_append,A1,DS]
  refine sT<|sC<|sp J<|sp J<|sp J<|sP (pT gx (f+33))<|Sy.callT (λw hw=>MS w0.inn gc gr gx (f+33) tx (A++[Value.bool true]++Z32) Z sl1 s1 (R++N1) S hS1 A2 e1 (Nat.le_trans h1 hl) y1 w (by simpa only [List.append_assoc] using hw)) (λu M hM=>?_)
  obtain ⟨m,s2,sl2,cs2,N2,a2,n2,o2,⟨rfl,b1,b2⟩,e2,h2,y2,rfl⟩:=hM
  refine Sy.permS (M:=CRS gc gr gx tx ((A++[Value.bool true])++(Z32++(lPT m++Z))) sl2 s2.e (R++N1++N2)) (List.Perm.of_eq (by rw [List.append_assoc (A++[Value.bool true])]))<|Sy.nil<|Sy.then_<|Sy.region<|sp J<|sp J<|sp J<|sP (pT gx (f+1))<|sS (.agg (z32.map bv).toArray) (Quiet.mid 1 gx (f+1) 32 tx 37 ((A++[Value.bool true])++(Z32++(lPT m++Z))) Z32 _ _ J kR J DI J kR (Ca A1 DS) (Ja A1 DS))<|sP (.agg (z32.map bv).toArray)<|sS (.bool true) (Quiet.pure (λw=>(ES w _ _ _ _ z32 z32 J J J J J).trans (by rw [decide_eq_true J]))) ?_
  have p5:(CRS gc gr gx tx ((A++[Value.bool true])++(Z32++(lPT m++Z))) sl2 s2.e (R++N1++N2)).Perm (CRN gc gr sl2 s2.e ((gx,tx,((A++[Value.bool true])++(Z32++(lPT m++Z))).toArray)::(R++N1++N2))):=BU
  refine Sy.permS p5<|Sy.callT (λw hw=>C5 w0.inn gc gr sl2 s2.e e2 ((gx,tx,((A++[Value.bool true])++(Z32++(lPT m++Z))).toArray)::(R++N1++N2)) true w hw) (λu M hM=>?_)
  subst hM
  rw [if_pos J]
  refine Sy.permS p5.symm<|Sy.nil ?_
  have hAf:After J9 s ⟨true,z32,m⟩ s2:=a1.bind (by rw [if_pos J]; exact a2.bind (After.ret _ _))
  have hLn:([Value.bool true]++(Z32++lPT m)).length=42:=rfl
  have hOn:∀ u∈([Value.bool true]++(Z32++lPT m)),u.oneCell'=true:=AG o1 (AG (Bw z32) o2)
  exact Sy.retT0 J (CRS gc gr gx tx (A++(([Value.bool true]++(Z32++lPT m))++Z)) sl2 s2.e (R++(N1++N2))) (λ_ h=>by simpa only [List.append_assoc,List.cons_append,List.nil_append] using h) (λ_=>⟨_,s2,sl2,_,N1++N2,hAf,hLn,hOn,⟨rfl,rfl,b1,b2⟩,e2,Nat.le_trans h2 h1,y2,rfl⟩)
 have A1:(A++[Value.bool false]).length=f+1:=by rw [List.length_append,hA]; rfl
 refine sU<|sC<|sp J<|sp J<|sp J<|sP (pT gx (f+1))<|Sy.callT (λw hw=>EE w0.inn gc gr gx (f+1) tx (A++[Value.bool false]) (lPT ⟨0,0,false⟩++Z) sl1 s1 (R++N1) S hS1 A1 e1 (Nat.le_trans h1 hl) y1 w (by simpa only [List.append_assoc] using hw)) (λu M hM=>?_)
 obtain ⟨m,s2,sl2,cs2,N2,a2,n2,o2,⟨rfl,b1⟩,e2,h2,y2,rfl⟩:=hM
 have A2:(A++[Value.bool false]++m.map bv).length=f+33:=by rw [List.length_append,A1,n2]
 refine Sy.permS (M:=CRS gc gr gx tx ((A++[Value.bool false]++m.map bv)++(lPT ⟨0,0,false⟩++Z)) sl2 s2.e (R++N1++N2)) (List.Perm.of_eq (by rw [List.append_assoc (A++[Value.bool false])]))<|Sy.nil<|Sy.then_<|Sy.region<|sp J<|sp J<|sp J<|sP (pT gx (f+33))<|sS (Cu.pv 0 0 false) (Quiet.mid 1 gx (f+33) 9 tx 57 ((A++[Value.bool false]++m.map bv)++(lPT ⟨0,0,false⟩++Z)) (lPT ⟨0,0,false⟩) _ _ J kR J Am J kR (Ca A2 J) (Ja A2 J))<|sP (Cu.pv 0 0 false)<|sS (.bool true) (Quiet.pure (λw=>Cu.eql_pt w _ _ _ _ 0 0 false 0 0 false J J J dZ dZ dZ dZ)) ?_
 have p5:(CRS gc gr gx tx ((A++[Value.bool false]++m.map bv)++(lPT ⟨0,0,false⟩++Z)) sl2 s2.e (R++N1++N2)).Perm (CRN gc gr sl2 s2.e ((gx,tx,((A++[Value.bool false]++m.map bv)++(lPT ⟨0,0,false⟩++Z)).toArray)::(R++N1++N2))):=BU
 refine Sy.permS p5<|Sy.callT (λw hw=>C5 w0.inn gc gr sl2 s2.e e2 ((gx,tx,((A++[Value.bool false]++m.map bv)++(lPT ⟨0,0,false⟩++Z)).toArray)::(R++N1++N2)) true w hw) (λu M hM=>?_)
 subst hM
 rw [if_pos J]
 refine Sy.permS p5.symm<|Sy.nil ?_
 ·have hAf:After J9 s ⟨false,m,⟨0,0,false⟩⟩ s2:=a1.bind (by rw [if_neg dZ]; exact a2.bind (After.ret _ _))
  have hLn:([Value.bool false]++(m.map bv++lPT ⟨0,0,false⟩)).length=42:=by rw [List.length_append,List.length_append,n2]; rfl
  have hOn:∀ u∈([Value.bool false]++(m.map bv++lPT ⟨0,0,false⟩)),u.oneCell'=true:=AG o1 (AG o2 (CD _))
  exact Sy.retT0 J (CRS gc gr gx tx (A++(([Value.bool false]++(m.map bv++lPT ⟨0,0,false⟩))++Z)) sl2 s2.e (R++(N1++N2))) (λ_ h=>by simpa only [List.append_assoc,List.cons_append,List.nil_append] using h) (λ_=>⟨_,s2,sl2,_,N1++N2,hAf,hLn,hOn,⟨rfl,b1,(show 0<Cu.K4 by decide),(show 0<Cu.K4 by decide)⟩,e2,Nat.le_trans h2 h1,y2,rfl⟩)
theorem Ky:B4 93 11 ([Value.bool false]++([Value.int .u64 0]++lPT ⟨0,0,false⟩)) He JJ:=λw0 gc gr gx f tx A Z sl s R S hS hA he hl hv w hw=>by
 refine Sy.enterT (args:=[ptr gc,pT gx f]) hw Tryz.func93 J kL<|sC<|sp J<|sp J<|sp J<|sP (pT gx f)<|Sy.callT (λw hw=>ME w0.inn gc gr gx f tx A ([Value.int .u64 0]++(lPT ⟨0,0,false⟩++Z)) sl s R S hS hA he hl hv w (by simpa only [List.append_assoc] using hw)) (λu M hM=>?_)
 obtain ⟨x1,s1,sl1,cs1,N1,a1,n1,o1,rfl,e1,h1,y1,rfl⟩:=hM
 have hS1:∀ b∈S,b∈R++N1:=λb h=>List.mem_append_left _ (hS b h)
 refine sA<|sp J<|sp J<|sP (pT gx f)<|sS (.bool x1) (Quiet.cell 1 gx f tx 4 (A++([Value.bool x1]++([Value.int .u64 0]++(lPT ⟨0,0,false⟩++Z)))).toArray _ _ J kR J uy4 J _ (by rw [List.getElem?_toArray,List.getElem?_append_right om,hA,Nat.sub_self]; rfl)) ?_
 refine sG ?_
 cases x1
 case' true =>
  have A1:(A++[Value.bool true]).length=f+1:=by rw [List.length_append,hA]; rfl
  have A2:(A++[Value.bool true]++[Value.int .u64 0]).length=f+2:=by rw [List.length_append,A1]; rfl
  refine sT<|sC<|sp J<|sp J<|sp J<|sP (pT gx (f+2))<|Sy.callT (λw hw=>MS w0.inn gc gr gx (f+2) tx (A++[Value.bool true]++[Value.int .u64 0]) Z sl1 s1 (R++N1) S hS1 A2 e1 (Nat.le_trans h1 hl) y1 w (by simpa only [List.append_assoc] using hw)) (λu M hM=>?_)
  obtain ⟨m,s2,sl2,cs2,N2,a2,n2,o2,⟨rfl,b1,b2⟩,e2,h2,y2,rfl⟩:=hM
  refine Sy.permS (M:=CRS gc gr gx tx ((A++[Value.bool true])++([Value.int .u64 0]++(lPT m++Z))) sl2 s2.e (R++N1++N2)) (List.Perm.of_eq (by rw [List.append_assoc (A++[Value.bool true])]))<|Sy.nil<|Sy.then_<|Sy.region<|sp J<|sp J<|sp J<|sP (pT gx (f+1))<|sS (uZ 0) (Quiet.cell 1 gx (f+1) tx 22 ((A++[Value.bool true])++([Value.int .u64 0]++(lPT m++Z))).toArray _ _ J kR J CF J _ (by rw [List.getElem?_toArray,List.getElem?_append_right om,A1,Nat.sub_self]; rfl))<|sP (.bool true) ?_
  have p5:(CRS gc gr gx tx ((A++[Value.bool true])++([Value.int .u64 0]++(lPT m++Z))) sl2 s2.e (R++N1++N2)).Perm (CRN gc gr sl2 s2.e ((gx,tx,((A++[Value.bool true])++([Value.int .u64 0]++(lPT m++Z))).toArray)::(R++N1++N2))):=BU
  refine Sy.permS p5<|Sy.callT (λw hw=>C5 w0.inn gc gr sl2 s2.e e2 ((gx,tx,((A++[Value.bool true])++([Value.int .u64 0]++(lPT m++Z))).toArray)::(R++N1++N2)) true w hw) (λu M hM=>?_)
  subst hM
  rw [if_pos J]
  refine Sy.permS p5.symm<|Sy.nil ?_
  have hAf:After JJ s ⟨true,0,m⟩ s2:=a1.bind (by rw [if_pos J]; exact a2.bind (After.ret _ _))
  have hLn:([Value.bool true]++([Value.int .u64 0]++lPT m)).length=11:=rfl
  have hOn:∀ u∈([Value.bool true]++([Value.int .u64 0]++lPT m)),u.oneCell'=true:=AG o1 (AG (λu hu=>by rw [List.mem_singleton.1 hu]; rfl) o2)
  exact Sy.retT0 J (CRS gc gr gx tx (A++(([Value.bool true]++([Value.int .u64 0]++lPT m))++Z)) sl2 s2.e (R++(N1++N2))) (λ_ h=>by simpa only [List.append_assoc,List.cons_append,List.nil_append] using h) (λ_=>⟨_,s2,sl2,_,N1++N2,hAf,hLn,hOn,⟨rfl,(show (0:Nat)<18446744073709551616 by decide),b1,b2⟩,e2,Nat.le_trans h2 h1,y2,rfl⟩)
 have A1:(A++[Value.bool false]).length=f+1:=by rw [List.length_append,hA]; rfl
 refine sU<|sC<|sp J<|sp J<|sp J<|sP (pT gx (f+1))<|Sy.callT (λw hw=>H3 w0.inn gc gr gx (f+1) tx (A++[Value.bool false]) (lPT ⟨0,0,false⟩++Z) sl1 s1 (R++N1) S hS1 A1 e1 (Nat.le_trans h1 hl) y1 w (by simpa only [List.append_assoc] using hw)) (λu M hM=>?_)
 obtain ⟨m,s2,sl2,cs2,N2,a2,n2,o2,⟨rfl,b1⟩,e2,h2,y2,rfl⟩:=hM
 have A2:(A++[Value.bool false]++[Value.int .u64 (m:Int)]).length=f+2:=by rw [List.length_append,A1,n2]
 refine Sy.permS (M:=CRS gc gr gx tx ((A++[Value.bool false]++[Value.int .u64 (m:Int)])++(lPT ⟨0,0,false⟩++Z)) sl2 s2.e (R++N1++N2)) (List.Perm.of_eq (by rw [List.append_assoc (A++[Value.bool false])]))<|Sy.nil<|Sy.then_<|Sy.region<|sp J<|sp J<|sp J<|sP (pT gx (f+2))<|sS (Cu.pv 0 0 false) (Quiet.mid 1 gx (f+2) 9 tx 57 ((A++[Value.bool false]++[Value.int .u64 (m:Int)])++(lPT ⟨0,0,false⟩++Z)) (lPT ⟨0,0,false⟩) _ _ J kR J Am J kR (Ca A2 J) (Ja A2 J))<|sP (Cu.pv 0 0 false)<|sS (.bool true) (Quiet.pure (λw=>Cu.eql_pt w _ _ _ _ 0 0 false 0 0 false J J J dZ dZ dZ dZ)) ?_
 have p5:(CRS gc gr gx tx ((A++[Value.bool false]++[Value.int .u64 (m:Int)])++(lPT ⟨0,0,false⟩++Z)) sl2 s2.e (R++N1++N2)).Perm (CRN gc gr sl2 s2.e ((gx,tx,((A++[Value.bool false]++[Value.int .u64 (m:Int)])++(lPT ⟨0,0,false⟩++Z)).toArray)::(R++N1++N2))):=BU
 refine Sy.permS p5<|Sy.callT (λw hw=>C5 w0.inn gc gr sl2 s2.e e2 ((gx,tx,((A++[Value.bool false]++[Value.int .u64 (m:Int)])++(lPT ⟨0,0,false⟩++Z)).toArray)::(R++N1++N2)) true w hw) (λu M hM=>?_)
 subst hM
 rw [if_pos J]
 refine Sy.permS p5.symm<|Sy.nil ?_
 ·have hAf:After JJ s ⟨false,m,⟨0,0,false⟩⟩ s2:=a1.bind (by rw [if_neg dZ]; exact a2.bind (After.ret _ _))
  have hLn:([Value.bool false]++([Value.int .u64 (m:Int)]++lPT ⟨0,0,false⟩)).length=11:=by rw [List.length_append,List.length_append,n2]; rfl
  have hOn:∀ u∈([Value.bool false]++([Value.int .u64 (m:Int)]++lPT ⟨0,0,false⟩)),u.oneCell'=true:=AG o1 (AG o2 (CD _))
  exact Sy.retT0 J (CRS gc gr gx tx (A++(([Value.bool false]++([Value.int .u64 (m:Int)]++lPT ⟨0,0,false⟩))++Z)) sl2 s2.e (R++(N1++N2))) (λ_ h=>by simpa only [List.append_assoc,List.cons_append,List.nil_append] using h) (λ_=>⟨_,s2,sl2,_,N1++N2,hAf,hLn,hOn,⟨rfl,b1,(show 0<Cu.K4 by decide),(show 0<Cu.K4 by decide)⟩,e2,Nat.le_trans h2 h1,y2,rfl⟩)
structure MOu where
 kind:Int
 asset:MTag
 amount:MAmt
 range:Byt
 surject:Byt
 note:Byt
 script:Byt
def okK (k:Int):Bool:=decide (1≤k) && decide (k≤4)
def cOU (o:MOu) (vr vs vn vc:Value):List Value:=[.int .i64 o.kind]++(cTG o.asset++(cAM o.amount++([vr]++([vs]++([vn]++[vc])))))
def Cf (C:Rdr) (cs:List Value) (o:MOu):Prop:=∃ vr vs vn vc,cs=cOU o vr vs vn vc∧(o.asset.id.length=32∧o.asset.pt.x<Cu.K4∧o.asset.pt.y<Cu.K4)∧(o.amount.value<18446744073709551616∧o.amount.pt.x<Cu.K4∧o.amount.pt.y<Cu.K4)∧BytR C vr o.range∧BytR C vs o.surject∧BytR C vn o.note∧BytR C vc o.script
theorem Em:BI Cf:=λhl ⟨vr,vs,vn,vc,h1,h2,h3,h4,h5,h6,h7⟩=>⟨vr,vs,vn,vc,h1,h2,h3,h4.le hl,h5.le hl,h6.le hl,h7.le hl⟩
def Er (b:Byt):Byt:=Af b.length++b
def GO (o:MOu):Bool:=okK o.kind && (Nv o.asset && (LO o.amount && (decide (o.range.length≤6000) && (decide (o.surject.length≤6000) && (decide (o.note.length≤128) && decide (o.script.length≤256))))))
def F_ (o:MOu):Byt:=[CZ o.kind]++(IA o.asset++(Gk o.amount++(Er o.range++(Er o.surject++(Er o.note++Er o.script)))))
def Dv (o:MOu):Nat:=1+(34+(34+((9+o.range.length)+((9+o.surject.length)+((9+o.note.length)+(9+o.script.length))))))
def GM:Ps MOu:=AJ CY λk=>AJ (BJ (okK k)) λ_=>AJ J9 λa=>AJ JJ λb=>AJ (Bu 6000) λr=>AJ (Bu 6000) λs=>AJ (Bu 128) λn=>AJ (Bu 256) λc=>BO ⟨k,a,b,r,s,n,c⟩
theorem LN {z:Int} (h:¬ (z=1∨z=2∨z=3∨z=4)):okK z=false:=by
 cases hb:okK z with
 | false=>rfl
 | true =>
  unfold okK at hb
  rw [Bool.and_eq_true,decide_eq_true_eq,decide_eq_true_eq] at hb
  exact (h om).elim
theorem Mb {z:Int} (h:z=1∨z=2∨z=3∨z=4):okK z=true∧okO z=true:=by rcases h with rfl|rfl|rfl|rfl <;> exact ⟨rfl,rfl⟩
theorem ET {t:MTag} (h:t.id.length=32):(cTG t).length=42:=by unfold cTG; rw [List.length_append,List.length_append,List.length_map,h]; rfl
theorem UI:IK 46 58 Cf GO F_ Dv:=λw0 gc gw gx f bad s R b cs x hx _ hc hb hl w hw=>by
 obtain ⟨z,ta,am,rg,su,nt,sc⟩:=x
 obtain ⟨vr,vs,vn,vc,rfl,h1,h2,h3,h4,h5,h6⟩:=hx
 dsimp only at h1 h2 h3 h4 h5 h6
 unfold Dv at hl
 dsimp only at hl
 have c0:OwnAt R gx f ([.int .i64 z]++(cTG ta++(cAM am++([vr]++([vs]++([vn]++[vc])))))):=hc
 have c1:OwnAt R gx (f+1) (cTG ta++(cAM am++([vr]++([vs]++([vn]++[vc]))))):=c0.right (n:=1) rfl
 have c2:OwnAt R gx (f+43) (cAM am++([vr]++([vs]++([vn]++[vc])))):=by have q:=c1.right (ET h1.1); rwa [Nat.add_assoc] at q
 have c3:OwnAt R gx (f+54) ([vr]++([vs]++([vn]++[vc]))):=by have q:=c2.right (n:=11) rfl; rwa [Nat.add_assoc] at q
 have c4:OwnAt R gx (f+55) ([vs]++([vn]++[vc])):=c3.right (n:=1) rfl
 have c5:OwnAt R gx (f+56) ([vn]++[vc]):=c4.right (n:=1) rfl
 have c6:OwnAt R gx (f+57) [vc]:=c5.right (n:=1) rfl
 have X0:rdC w0.inn R gx f (.int .i64 z):=(c0.at w0.inn).one
 refine Sy.enterT (args:=[ptr gc,pT gx f]) hw Tryz.func46 J kL<|sC<|sp J<|sp J<|sp J<|sP (pT gx f)<|Sy.callT (λw hw=>Fy w0.inn gc gw gx f bad s R b z X0 hb om w hw) (λu M hM=>?_)
 obtain ⟨s1,bad1,b1,q1,p1,rfl⟩:=hM
 have l1:=q1.len
 refine sA<|sp J<|sp J<|sP (pT gx f)<|sS (.int .i64 z) (AH (R:=R) X0 Ar J uy3)<|sG<|Sy.block<|Sy.seq<|Sy.block ?_
 by_cases hk:z=1∨z=2∨z=3∨z=4
 ·obtain ⟨k1,k2⟩:=Mb hk
  refine Sy.seq<|De [(0,ptr gc),(1,pT gx f)] (CWS gc gw bad1 s1 R) ?_ ?_
  ·clear hl X0 c0 q1 k1 k2 hc
   rcases hk with rfl|rfl|rfl|rfl
   ·refine Sy.block<|Sy.block<|Sy.block<|Sy.block<|Sy.seq<|Sy.seq<|sC ?_
    refine sP (.bool true)<|sp J<|sG<|sT<|Sy.exit<|Sy.then_exit<|Sy.then_exit<|Sy.in_exit<|Sy.in_<|Sy.in_<|Sy.in_ ?_
    exact BK ac2 (λ_ h=>h)
   ·refine Sy.block<|Sy.block<|Sy.block<|Sy.block<|Sy.seq<|Sy.seq<|sC ?_
    refine sP (.bool false)<|sp J<|sG<|sU<|Sy.skip<|Sy.then_<|Sy.seq<|sC<|sP (.bool true)<|sp J<|sG<|sT<|Sy.exit<|Sy.then_exit<|Sy.then_exit<|Sy.in_pass (by decide)<|Sy.in_exit<|Sy.in_<|Sy.in_ ?_
    exact BK ac2 (λ_ h=>h)
   ·refine Sy.block<|Sy.block<|Sy.block<|Sy.block<|Sy.seq<|Sy.seq<|sC ?_
    refine sP (.bool false)<|sp J<|sG<|sU<|Sy.skip<|Sy.then_<|Sy.seq<|sC<|sP (.bool false)<|sp J<|sG<|sU<|Sy.skip<|Sy.then_<|Sy.seq<|sC<|sP (.bool true)<|sp J<|sG<|sT<|Sy.exit<|Sy.then_exit<|Sy.then_exit<|Sy.in_pass (by decide)<|Sy.in_pass (by decide)<|Sy.in_exit<|Sy.in_ ?_
    exact BK ac2 (λ_ h=>h)
   ·refine Sy.block<|Sy.block<|Sy.block<|Sy.block<|Sy.seq<|Sy.seq<|sC ?_
    refine sP (.bool false)<|sp J<|sG<|sU<|Sy.skip<|Sy.then_<|Sy.seq<|sC<|sP (.bool false)<|sp J<|sG<|sU<|Sy.skip<|Sy.then_<|Sy.seq<|sC<|sP (.bool false)<|sp J<|sG<|sU<|Sy.skip<|Sy.then_<|sC<|sP (.bool true)<|sp J<|sG<|sT<|Sy.exit<|Sy.then_exit<|Sy.in_pass (by decide)<|Sy.in_pass (by decide)<|Sy.in_pass dZ ?_
    refine Sy.in_exit ?_
    exact BK ac2 (λ_ h=>h)
  refine Sy.then_<|Sy.seq<|sC<|sp J<|sp J<|sp J<|sP (pT gx (f+1))<|Sy.callT (λw hw=>Ty w0.inn gc gw gx (f+1) bad1 s1 R b1 (cTG ta) ta ⟨rfl,h1⟩ (ET h1.1) c1.left p1 (by show _+34≤_; omega) w hw) (λu M hM=>?_)
  obtain ⟨s2,bad2,b2,q2,p2,rfl⟩:=hM
  have l2:b2.length≤b1.length+34:=q2.len
  refine sA<|sp J<|sp J<|sp J<|sP (pT gx (f+43))<|Sy.callT (λw hw=>Kx w0.inn gc gw gx (f+43) bad2 s2 R b2 (cAM am) am ⟨rfl,h2⟩ rfl c2.left p2 (by show _+34≤_; omega) w hw) (λu M hM=>?_)
  obtain ⟨s3,bad3,b3,q3,p3,rfl⟩:=hM
  have l3:b3.length≤b2.length+34:=q3.len
  refine sA<|sp J<|sp J<|sp J<|sP (pT gx (f+54))<|Sy.callT (λw hw=>Ee w0.inn gc gw gx (f+54) bad3 s3 R b3 rg vr 6000 dZ h3 (c3.at w0.inn).one p3 om w hw) (λu M hM=>?_)
  obtain ⟨s4,bad4,b4,q4,p4,rfl⟩:=hM
  have l4:b4.length≤b3.length+(9+rg.length):=q4.len
  refine sA<|sp J<|sp J<|sp J<|sP (pT gx (f+55))<|Sy.callT (λw hw=>Ee w0.inn gc gw gx (f+55) bad4 s4 R b4 su vs 6000 dZ h4 (c4.at w0.inn).one p4 om w hw) (λu M hM=>?_)
  obtain ⟨s5,bad5,b5,q5,p5,rfl⟩:=hM
  have l5:b5.length≤b4.length+(9+su.length):=q5.len
  refine sA<|sp J<|sp J<|sp J<|sP (pT gx (f+56))<|Sy.callT (λw hw=>Ee w0.inn gc gw gx (f+56) bad5 s5 R b5 nt vn 128 dZ h5 (c5.at w0.inn).one p5 om w hw) (λu M hM=>?_)
  obtain ⟨s6,bad6,b6,q6,p6,rfl⟩:=hM
  have l6:b6.length≤b5.length+(9+nt.length):=q6.len
  refine Sy.nil<|Sy.then_<|Sy.region<|sp J<|sp J<|sp J<|sP (pT gx (f+57))<|Sy.callT (λw hw=>Ee w0.inn gc gw gx (f+57) bad6 s6 R b6 sc vc 256 dZ h6 (c6.at w0.inn).one p6 om w hw) (λu M hM=>?_)
  obtain ⟨s7,bad7,b7,q7,p7,rfl⟩:=hM
  have l7:b7.length≤b6.length+(9+sc.length):=q7.len
  refine Sy.nil<|Sy.then_<|Sy.exit<|Sy.in_pass (by decide)<|Sy.then_exit<|Sy.in_exit ?_
  have q:=q1.then_ (q2.then_ (q3.then_ (q4.then_ (q5.then_ (q6.then_ q7)))))
  rw [k2, ← k1] at q
  exact Sy.retT0 J (CWS gc gw bad7 s7 R) (λ_ h=>h) (λ_=>⟨s7,bad7,b7,q,p7,rfl⟩)
 refine Sy.seq<|Sy.block<|Sy.block<|Sy.block<|Sy.block<|Sy.seq<|Sy.seq<|sC<|sS (.bool false) (Quiet.pure (AD .eql _ _ _ .i64 _ _ _ J J J (Ab _ _ _ _ _ (decide_eq_false (λe=>hk (by simp [e]))))))<|sp J<|sG<|sU<|Sy.skip<|Sy.then_<|Sy.seq<|sC<|sS (.bool false) (Quiet.pure (AD .eql _ _ _ .i64 _ _ _ J J J (Ab _ _ _ _ _ (decide_eq_false (λe=>hk (by simp [e]))))))<|sp J<|sG<|sU<|Sy.skip<|Sy.then_<|Sy.seq<|sC<|sS (.bool false) (Quiet.pure (AD .eql _ _ _ .i64 _ _ _ J J J (Ab _ _ _ _ _ (decide_eq_false (λe=>hk (by simp [e]))))))<|sp J<|sG<|sU<|Sy.skip<|Sy.then_<|sC<|sS (.bool false) (Quiet.pure (AD .eql _ _ _ .i64 _ _ _ J J J (Ab _ _ _ _ _ (decide_eq_false (λe=>hk (by simp [e]))))))<|sp J<|sG<|sU<|Sy.skip<|Sy.then_<|Sy.exit<|Sy.in_pass (by decide)<|Sy.in_pass dZ ?_
 refine Sy.in_pass (by decide)<|Sy.in_pass (by decide)<|Sy.then_exit<|Sy.in_exit<|sB<|sp J<|Sy.callT (λw hw=>Bt w0.inn gc gw bad1 false s1 R w hw) (λu M hM=>?_)
 subst hM
 refine sG<|Sy.exit<|Sy.in_exit ?_
 have hno:GO ⟨z,ta,am,rg,su,nt,sc⟩=false:=by unfold GO; rw [LN hk]; rfl
 exact Sy.retT0 J (CWS gc gw (bad1 || !false) s1 R) (λ_ h=>h) (λ_=>⟨s1,bad1 || !false,b1,⟨by rw [hno]; cases bad1 <;> cases bad <;> rfl,λh=>(by cases bad1 <;> cases h),by unfold Dv; dsimp only; omega⟩,p1,rfl⟩)
theorem PV:Opn 55 4 (λ_ cs n=>cs=Cu.fws n∧n<Cu.K4) (λ_=>0):=⟨λ{H enc W fuel cs x} hl hf=>by
 match cs,hl with
 | [c0,c1,c2,c3],_ =>
  obtain ⟨n,h1,h2⟩:=Cu.words_trod Ae CF kZ hf
  refine ⟨n,⟨h2,h1⟩,λu hu=>?_,Cv _⟩
  rw [h2] at hu
  simp only [Cu.fws,List.mem_cons,List.not_mem_nil,or_false] at hu
  rcases hu with rfl|rfl|rfl|rfl <;> rfl⟩
theorem PT:Opn 57 9 O3 (λ_=>0):=(JS Am kZ kZ kZ kZ kZ kZ PV PV (PW uy4)).as λC cs (x,y,i) ⟨a0,a1,a2,e,⟨e0,h0⟩,⟨e1,h1⟩,e2⟩=>by
 obtain rfl:a2=[.bool i]:=e2
 subst e0 e1 e
 exact ⟨⟨x,y,i⟩,⟨rfl,h0,h1⟩,Nat.zero_le _⟩
theorem RJ:Opn 59 42 Hd (λ_=>0):=(JS Ob kZ kZ kZ kZ kZ kZ (PW uy4) Hp PT).as λC cs (b,d,p) ⟨a0,a1,a2,e,e0,⟨e1,h1⟩,⟨e2,h2⟩⟩=>by
 obtain rfl:a0=[.bool b]:=e0
 subst e1 e2 e
 exact ⟨⟨b,d,p⟩,⟨rfl,h1,h2⟩,Nat.zero_le _⟩
theorem MV:Opn 61 11 He (λ_=>0):=(JS Jx kZ kZ kZ kZ kZ kZ (PW uy4) JQ PT).as λC cs (b,d,p) ⟨a0,a1,a2,e,e0,⟨e1,h1⟩,⟨e2,h2⟩⟩=>by
 obtain rfl:a0=[.bool b]:=e0
 subst e1 e2 e
 exact ⟨⟨b,d,p⟩,⟨rfl,h1,h2⟩,Nat.zero_le _⟩
theorem opn_out:Opn 63 58 Cf (λo=>o.range.length+o.surject.length+o.note.length+o.script.length):=(TJ G' kZ kZ kZ kZ kZ kZ kZ kZ kZ kZ kZ kZ kZ kZ (PU uy3) RJ MV opn_raw opn_raw opn_raw opn_raw).as λC cs (k,t,a,r,s,n,c) ⟨a0,a1,a2,a3,a4,a5,a6,ec,e0,⟨e1,h1⟩,⟨e2,h2⟩,⟨v3,e3,h3⟩,⟨v4,e4,h4⟩,⟨v5,e5,h5⟩,⟨v6,e6,h6⟩⟩=>by
 obtain rfl:a0=[.int .i64 k]:=e0
 dsimp only at e1 e2 e3 e4 e5 e6 h1 h2 h3 h4 h5 h6
 subst e1 e2 e3 e4 e5 e6 ec
 exact ⟨⟨k,t,a,r,s,n,c⟩,⟨v3,v4,v5,v6,rfl,h1,h2,h3,h4,h5,h6⟩,by dsimp only; omega⟩
end Wr
end
end Go.Proofs.YtdbcombmmnihbaaGreat
