/-
  Texts of ours, put together: SymX, CrvE, CrvZ, WirDH, WirDI, WirEC, WirDJ, WirCG, WirDK, WirDL, WirED, WirFA, ScSpec, ScLow, ScBase, ScOps, ScEq, ScB32, WirGA, WirGB.
-/
import Derived.Test.YtdbcombmmnihbaaGreatWT6
set_option linter.unusedVariables false
set_option linter.unusedSimpArgs false
set_option maxRecDepth 100000
set_option maxHeartbeats 80000000
namespace Go.Proofs.YtdbcombmmnihbaaGreat
section
namespace Sy
open Go.RowKit
section
variable {P:Program} {w0:Base} {n:Nat} {Q:Exit→Act→World→Prop} {F:AK} {L:AA}
theorem TX {c:Code} (N:Nat) (I:Nat→Act→World→Prop) (h0:∀ a w,Fr w0.ds a n F→St w0 w L→I 0 a w)
  (hr:∀ i,i≤N→∀ a w,I i a w→c.wpIn w0.fence w0.room P (Exit.then (λa w=>i<N∧I (i+1) a w) Q) a w):wpR P w0 n c Q (N+1) F L:=λa w ha hw=>by
 have key:∀ k i,i+k=N→∀ a w,I i a w→Code.roundsIn w0.fence w0.room P c Q (k+1) a w:=by
  intro k
  induction k with
  | zero =>
   intro i hi a w h
   refine wpIn_mono (hr i om a w h) λe a w hq=>?_
   cases e <;> first | exact hq | exact absurd hq.1 om
  | succ k ih =>
   intro i hi a w h
   refine wpIn_mono (hr i om a w h) λe a w hq=>?_
   cases e <;> first | exact hq | exact ih (i+1) om a w hq.2
 exact key N 0 om a w (h0 a w ha hw)
theorem loopXR {T:Type} {c:Code} (N:Nat) (FF:Nat→T→AK) (LL:Nat→T→AA) (H:Nat→T→Prop) (x0:T) (m:List Bool) (h0:H 0 x0) (hF:∀ p∈FF 0 x0,F.lookup p.1=some p.2) (hL:sel L m=LL 0 x0)
  (hr:∀ k x,k≤N→H k x→wpC P w0 n (Exit.then (K0 w0 n N FF LL H k) Q) (FF k x) (LL k x) c):wpR P w0 n c Q (N+1) F L :=
 TX N (λk a w=>∃ x,H k x∧Fr w0.ds a n (FF k x)∧St w0 w (LL k x)) (λ_ _ ha hw=>⟨x0,h0,ha.all hF,hL ▸ hw.less (DO L m)⟩)
  λk hk a w ⟨x,hx,ha,hw⟩=>hr k x hk hx a w ha hw
end
theorem Qi (l:Ao) (k:Nat) {n:Nat} (hl:l.length=n) (s:List Value) (hk:k<n):((l.take k).map bv++([bv (l.getD k 0)]++s)).toArray.toList.take (k+1)=(l.take (k+1)).map bv:=by
 have hlt:k<l.length:=om
 have e:((l.take k).map bv).length=k:=by simp; omega
 rw [show ((l.take k).map bv++([bv (l.getD k 0)]++s)).toArray.toList=(l.take k).map bv++([bv (l.getD k 0)]++s) from rfl,List.take_append,e,List.take_of_length_le om,Nat.add_sub_cancel_left,List.take_succ_eq_append_getElem hlt,List.map_append]
 congr 1
 simp [List.getD,hlt]
theorem SL (l:Ao) (k:Nat) {n:Nat} (hl:l.length=n) (hk:k<n):((l.take (k+1)).map bv).length=k+1:=by simp; omega
theorem Qj (l:Ao) (k:Nat) {n:Nat} (hl:l.length=n) (s:List Value) {c:Nat} (hc:s.length+(k+1)=c) (hk:k<n):((l.take k).map bv++([bv (l.getD k 0)]++s)).toArray.size=c:=by simp; omega
theorem Qk (l:Ao) (k:Nat) (hl:l.length=k+1) {s:List Value}:((l.take k).map bv++([bv (l.getD k 0)]++s))=l.map bv++s:=by
 have hlt:k<l.length:=om
 have e:l=l.take k++[l.getD k 0]:=by
  have h2:=List.take_succ_eq_append_getElem hlt
  rw [List.take_of_length_le om] at h2
  rw [List.getD_eq_getElem?_getD,List.getElem?_eq_getElem hlt]
  exact h2
 conv=>rhs; rw [e,List.map_append,List.append_assoc]
 rfl
theorem Rm {l:Ao} {n:Nat} (h:l.length=n) {k o:Nat} (hk:k<n) (ho:o=k):((l.map bv).toArray)[o]? = some (bv (l.getD k 0)):=by
 subst h ho
 rw [List.getElem?_toArray,List.getElem?_map,List.getD_eq_getElem?_getD,List.getElem?_eq_getElem hk]
 rfl
end Sy
end
section
namespace Cu
open Go.RowKit Sy
theorem Nr {w:World} {g:Nat} {t:TypeId} {m:Ao} {sp:List Value} (hb:Blk w g t (m.map bv++sp).toArray) (j:Nat) (u:UInt8) (hj:m[j]? = some u):w.cell? ⟨g,j,none⟩=some (bv u):=by
 refine (hb.cell j).trans ?_
 have hl:=(List.getElem?_eq_some_iff.1 hj).1
 rw [List.getElem?_toArray,List.getElem?_append_left (by rw [List.length_map]; exact hl),List.getElem?_map,hj]
 rfl
theorem OC (w:World) (l:Ao) (hl:l.length=32):AL 248 #[.agg (l.map bv).toArray] w (Ai w (.tuple #[ptv (As l),.bool (Bk l)])):=by
 have hv:=Bo l hl
 refine Sy.enter (args:=[.agg (l.map bv).toArray]) Tryz.func248 J kL<|sC<|sM 210 (l.map bv).toArray (λg0=>?_)
 refine sM 57 (pcs 0 0 false) (λg1=>?_)
 refine sP (.bool false)<|sA<|sP (.slice none 0 0)<|sG<|Sy.seq<|sC<|sP (.int .i64 0)<|sG<|Sy.block<|Sy.loopN (31+1+1)<|Sy.round<|Sy.seq<|sC<|sP (.int .i64 0)<|sP (.bool true)<|sG<|sT<|Sy.skip<|Sy.then_<|Sy.seq<|Sy.block<|Sy.region<|sP (.slice none 0 0)<|sP (.int .i64 0)<|sP (pT g0 0)<|sS (bv (l.getD 0 0)) (qy 0 0 J J uy5 (Ta l hl 0 dZ)) ?_
 refine Sy.make kR 5 #[bv (l.getD 0 0)] (λg=>.slice (pA g) 1 1) kF (λg2=>?_)
 refine Sy.appendNil kR 27 5 _ _ Ay info_u8 J J J J _ _ J kR 2 g2 0 1 1 5 #[bv (l.getD 0 0)] [bv (l.getD 0 0)] kR kR kR J dZ (by intro u hu; simp only [List.mem_cons,List.not_mem_nil,or_false] at hu; subst hu; rfl) dZ (λq1 c1 s1 e1 m1=>?_)
 refine sP (.slice (pA q1) 1 c1)<|Sy.nil<|Sy.in_<|Sy.then_<|Sy.region<|sP (.int .i64 0)<|sP (.int .i64 1)<|sP (.int .i64 1)<|Sy.nil<|Sy.again<|Sy.loopXR (T:=Nat×Nat×List Value) 31 (λk1 y1=>[(1,pT g0 0),(2,pT g1 0),(4,.slice (some ⟨y1.1,0,none⟩) (k1+1) y1.2.1),(5,iZ (k1+1))]) (λk1 y1=>[(g0,210,(l.map bv).toArray),(g1,57,(pcs 0 0 false)),(y1.1,5,((l.take k1).map bv++([bv (l.getD k1 0)]++y1.2.2)).toArray)]) (λk1 y1=>y1.2.2.length+(k1+1)=y1.2.1∧y1.2.1≤maxLen) (q1,c1,s1) [true,true,false,true] ⟨e1,m1⟩ ac4 kR (λk1 y1 hk1 hh1=>?_)
 refine Sy.seq<|sC<|sP (iZ (k1+1)) ?_
 obtain ⟨b1,hb1⟩:=xE (decide (k1+1<32))
 refine sS (.bool b1) (qls J J J hb1)<|sG ?_
 cases b1
 ·have lb1:=dN hb1
  refine sU<|Sy.exit<|Sy.then_exit<|Sy.then_exit ?_
  obtain rfl:k1=31:=om
  have hcp:32≤y1.2.1∧y1.2.1≤9223372036854775807:=by
   have q:=hh1
   simp only [maxLen] at q
   exact ⟨by omega,by omega⟩
  refine Sy.in_exit<|Sy.then_<|Sy.tidyC (G:=[(1,pT g0 0),(2,pT g1 0),(4,.slice (some ⟨y1.1,0,none⟩) 32 y1.2.1)]) (N:=[(g0,210,(l.map bv).toArray),(g1,57,(pcs 0 0 false)),(y1.1,5,(l.map bv++y1.2.2).toArray)]) [true,true,true] rfl (Et J (Et J (Et (beq (congrArg List.toArray (Qk l 31 hl))) J))) ac3<|sC<|sP (.slice (some ⟨y1.1,0,none⟩) 32 y1.2.1)<|sS (fv (Ag l)) (qg (λw hw=>Dj w y1.1 y1.2.1 l hl (hw.get (i:=2) rfl).lt (Nr (hw.get (i:=2) rfl)) hcp.1 hcp.2))<|sM 359 (fcs 0) (λg3=>?_)
  refine sw 3 J (fcs (Ag l)) (wA J)<|sA<|sS (fv (Ag l)) (qk 3 0 4 J J AU) ?_
  obtain ⟨z1,hz1⟩:∃ z:Nat,z=Ds (Ag l):=⟨_,rfl⟩
  have lz1:z1<K4:=by rw [hz1]; exact Qa _
  refine sS (fv z1) (qf (λw=>by rw [hz1]; exact SD w (Ag l) lK)) ?_
  obtain ⟨r1,hr1⟩:∃ z:Nat,z=(Bs z1).1:=⟨_,rfl⟩
  obtain ⟨k1,hk1⟩:=xE ((Bs z1).2)
  have lr1:r1<K4:=by rw [hr1]; exact JD _
  refine sS (.tuple #[fv r1,.bool k1]) (qf (λw=>by rw [hr1,hk1, ← Qw]; exact NX w z1 lK))<|sP (.tuple #[fv r1,.bool k1])<|sP (fv r1)<|sP (.bool k1)<|sM 359 (fcs 0) (λg4=>?_)
  refine sw 4 J (fcs r1) (wA J)<|sP (.bool k1)<|sH (λj=>false) ?_
  refine sD 0 J (.agg D9) (qf DD)<|sD 1 J (fv (Ag l)) (qk 3 0 4 J J AU) ?_
  obtain ⟨b2,hb2⟩:=xE (decide ((Ag l)<pM))
  refine sD 2 J (.bool b2) (qf (λw=>by rw [hb2]; exact rightR_any w (Ag l) lK))<|sZ 3 J (.bool b2)<|sI<|Sy.seq<|sC<|sP (.bool k1) ?_
  cases k1
  ·refine sP (.bool true)<|sP (.bool true) ?_
   refine sN<|sN<|sP (.bool true)<|sG<|sT<|sC<|sS (pv 0 0 true) (qf EJ)<|sw 1 J (pcs 0 0 true) (wA J)<|sP (.bool false)<|sG<|Sy.ret<|Sy.then_ret ?_
   rw [show (.tuple #[ptv (As l),.bool (Bk l)]:Value)=.tuple #[pv 0 0 true,.bool false] from by
    have hb:Bk l=false:=by unfold Bk; rw [← hz1, ← hk1]; simp
    rw [hb,E1 hb]; rfl]
   exact Sy.ret2 (v:=pv 0 0 true) (u:=.bool false) rfl (.inl (Res.cell (ty':=57) g1 1 (pcs 0 0 true) _ kR kR Am J kR kR)) (.inl (show _=_ by kernel_rfl))
  ·refine sP (.bool false)<|sP (.bool false)<|sP (.bool b2) ?_
   cases b2
   ·refine sP (.bool true)<|sP (.bool true) ?_
    refine sG<|sT<|sC<|sS (pv 0 0 true) (qf EJ)<|sw 1 J (pcs 0 0 true) (wA J)<|sP (.bool false)<|sG<|Sy.ret<|Sy.then_ret ?_
    rw [show (.tuple #[ptv (As l),.bool (Bk l)]:Value)=.tuple #[pv 0 0 true,.bool false] from by
     have hb:Bk l=false:=by unfold Bk; rw [← hb2]; simp
     rw [hb,E1 hb]; rfl]
    exact Sy.ret2 (v:=pv 0 0 true) (u:=.bool false) rfl (.inl (Res.cell (ty':=57) g1 1 (pcs 0 0 true) _ kR kR Am J kR kR)) (.inl (show _=_ by kernel_rfl))
   ·refine sP (.bool false)<|sP (.bool false) ?_
    refine sG<|sU<|Sy.skip<|sB<|sS (fv (Ag l)) (qk 3 0 4 J J AU)<|sS (fv r1) (qk 4 0 4 J J AU)<|sS (pv (Ag l) r1 false) (qf (λw=>KD w (Ag l) r1 lK lK))<|sw 1 J (pcs (Ag l) r1 false) (wA J)<|sP (.bool true)<|sG<|Sy.ret ?_
    rw [show (.tuple #[ptv (As l),.bool (Bk l)]:Value)=.tuple #[pv (Ag l) r1 false,.bool true] from by
     have hb:Bk l=true:=by unfold Bk; rw [← hz1, ← hk1, ← hb2]; rfl
     obtain ⟨u2,y2,e1,e2,e3,_,_⟩:=F4 hb
     rw [hb,e3]
     unfold ptv
     simp only
     rw [e1,e2, ← hz1, ← hr1]]
    exact Sy.ret2 (v:=pv (Ag l) r1 false) (u:=.bool true) rfl (.inl (Res.cell (ty':=57) g1 1 (pcs (Ag l) r1 false) _ kR kR Am J kR kR)) (.inl (show _=_ by kernel_rfl))
 ·have lb1:=dY hb1
  refine sT<|Sy.skip<|Sy.then_<|Sy.seq<|Sy.block<|Sy.region<|sP (.slice (some ⟨y1.1,0,none⟩) (k1+1) y1.2.1)<|sP (iZ (k1+1))<|sS (.pointer (some ⟨g0,0+(k1+1)*1,none⟩)) (Quiet.pure (BQ 210 _ _ _ g0 0 _ (k1+1) 1 .i64 J J J HA kF om))<|sS (bv (l.getD (k1+1) 0)) (qy 0 (0+(k1+1)*1) rfl J uy5 (Rm hl (k:=k1+1) om om))<|Sy.make kR 5 #[bv (l.getD (k1+1) 0)] (λg=>.slice (pA g) 1 1) kF (λg5=>?_)
  refine Sy.append kR 27 5 _ _ Ay info_u8 J J J J _ _ J 2 y1.1 (k1+1) y1.2.1 ((l.take k1).map bv++([bv (l.getD k1 0)]++y1.2.2)).toArray ((l.take (k1+1)).map bv) kR kR (Qi l k1 hl y1.2.2 om) (SL l k1 hl om) (Qj l k1 hl y1.2.2 hh1.1 om) hh1.2 3 g5 0 1 1 5 #[bv (l.getD (k1+1) 0)] [bv (l.getD (k1+1) 0)] kR kR kR J (by intro u hu; simp only [List.mem_cons,List.not_mem_nil,or_false] at hu; subst hu; rfl) om (λq2 c2 s2 e2 m2=>?_)
  refine sP (.slice (pA q2) (k1+1+1) c2)<|Sy.nil<|Sy.in_<|Sy.then_<|Sy.region<|sP (iZ (k1+1))<|sS (iZ ((k1+1)+1)) (qad J J J)<|sP (iZ ((k1+1)+1))<|Sy.nil ?_
  exact Sy.againX ((q2,c2,s2)) [true,true,true,false] om (⟨e2,m2⟩) ac4 kR
def pwr (x y:Nat) (i:Bool):List Value:=fws x++(fws y++[Value.bool i])
section
variable {P:Program} {w0:Base} {F:AK} {L:AA} {o:Oper}
theorem Quiet.read {v:Value} (h:∀ w,St w0 w L→(execOp (evF F) o).run P w=.ok (.value v) w):Quiet P w0 F L o v:=λw hw=>by
 unfold Cq; rw [h w hw]; exact ⟨rfl,Gr.refl _⟩
end
theorem JC {w:World} {A:Option Addr} {m:Ao} {c:Nat} (h:Src w A m) (hm:m≠[]) :
  (convert 27 9 (.slice A m.length c)).run Tryz.prog w=.ok (.string ⟨m.toArray⟩) w:=by
 obtain ⟨b,o,rfl,_,hc⟩:=h hm
 refine run_convert_bytes_back w 27 9 5 _ c m Ay uy5 uy9 (λj hj=>?_)
 rw [B']
 exact hc j _ (List.getElem?_eq_getElem hj)
theorem JA {w0:Base} {F:AK} {L:AA} {o:Oper} (A:Option Addr) (m:Ao) (k c:Nat) (x:Operand) (ho:o.op=.convert 27 9 x) (hx:evF F x=.slice A k c) (hm:m.length=k) (hk:k≠0) (hs:Src w0.world A m):Quiet Tryz.prog w0 F L o (.string ⟨m.toArray⟩):=Quiet.read λw hw=>by
 have h:=JC (c:=c) (hs.below hw.below) (by intro e; rw [e] at hm; exact hk hm.symm)
 rw [hm] at h
 unfold execOp
 simp only [ho,hx,Sem.run_bind,h,Result.andThen_ok,Sem.run_pure]
theorem JB {w0:Base} {F:AK} {L:AA} {o:Oper} (i g:Nat) (t:TypeId) (m:Ao) (sp:List Value) (k c:Nat) (x:Operand) (ho:o.op=.convert 27 9 x) (hx:evF F x=.slice (pA g) k c) (hL:L[i]? = some (g,t,(m.map bv++sp).toArray)) (hm:m.length=k) (hk:k≠0):Quiet Tryz.prog w0 F L o (.string ⟨m.toArray⟩):=Quiet.read λw hw=>by
 have hb:=hw.get hL
 have hs:Src w (pA g) m:=λ_=>⟨g,0,rfl,hb.lt,λj u hj=>by
  rw [Nat.zero_add]
  refine (hb.cell j).trans ?_
  have hl:=(List.getElem?_eq_some_iff.1 hj).1
  rw [List.getElem?_toArray,List.getElem?_append_left (by rw [List.length_map]; exact hl),List.getElem?_map,hj]
  rfl⟩
 have h:=JC (c:=c) hs (by intro e; rw [e] at hm; exact hk hm.symm)
 rw [hm] at h
 unfold execOp
 simp only [ho,hx,Sem.run_bind,h,Result.andThen_ok,Sem.run_pure]
theorem F8 (w:World) (F:AK) (o:Oper) (x y:Operand) (a b:Ao) {yt:TypeId} (ho:o.op=.binOp .eql 9 x y yt) (hx:evF F x=.string ⟨a.toArray⟩) (hy:evF F y=.string ⟨b.toArray⟩):(execOp (evF F) o).run Tryz.prog w=.ok (.value (.bool (decide (a=b)))) w:=by
 have h1:(eqGuard .eql 9 x y (.string ⟨a.toArray⟩) (.string ⟨b.toArray⟩)).run Tryz.prog w=.ok () w:=by go_simp
 have h2:(binOp .eql 9 (.string ⟨a.toArray⟩) (.string ⟨b.toArray⟩)).run Tryz.prog w=.ok (.bool (decide (a=b))) w:=by
  by_cases e:a=b <;> simp [go_sem,ByteArray.toList_eq,e]
 unfold execOp
 simp only [ho,hx,hy,Sem.run_bind,h1,h2,Result.andThen_ok,Sem.run_pure]
theorem SI (b:UInt8) (t:Ao):Ct (b::t)=Ec.neg (As t)∨Ct (b::t)=As t:=by
 unfold Ct
 split
 ·exact .inl J
 ·exact .inr J
theorem QY (w:World) (A:Option Addr) (n c:Nat) (hn:n≠33):AL 222 #[.slice A n c] w (Ai w (.tuple #[pv 0 0 true,.bool false])):=by
 refine Sy.enter (args:=[.slice A n c]) Tryz.func222 J kL<|sC<|sM 57 (pcs 0 0 false) (λg0=>?_)
 refine sP (.bool false)<|sG<|Sy.seq<|sC<|sP (.slice A n c)<|sP (.int .i64 (n:Int))<|sS (.bool true) (Quiet.pure (λw=>Mf w _ _ _ _ n hn J J J))<|sG<|sT<|sC<|sS (pv 0 0 true) (qf EJ)<|sw 0 J (pcs 0 0 true) (wA J)<|sP (.bool false)<|sG<|Sy.ret<|Sy.then_ret ?_
 exact Sy.ret2 (v:=pv 0 0 true) (u:=.bool false) rfl (.inl (Res.cell (ty':=57) g0 0 (pcs 0 0 true) _ kR kR Am J kR kR)) (.inl (show _=_ by kernel_rfl))
theorem S7 {A B:List Value} {x v:Value} {n:Nat} (h:n=A.length):((A++x::B).toArray).setIfInBounds n v=(A++v::B).toArray:=by
 subst h
 simp
theorem SC (w:World) (ga oa cb:Nat) (o0:UInt8) (tl:Ao) (hl:tl.length=32) (hs:SrcL w ga oa (o0::tl)) (hsr:Src w (some ⟨ga,oa,none⟩) (o0::tl)) (hcap:33≤cb):AL 222 #[.slice (some ⟨ga,oa,none⟩) 33 cb] w (Ai w (.tuple #[ptv (decP (o0::tl)),.bool (decOk (o0::tl))])):=by
 obtain ⟨px,py,pi,lpx,lpy,ep,dp,rp⟩:=Gz (As tl) (DF tl)
 obtain ⟨nx,ny,ni,lnx,lny,en,dn,rn⟩:=Gz (Ec.neg (As tl)) (Ec.On.neg (DF tl))
 obtain ⟨kb,hkb⟩:=xE (Bk tl)
 have cL:∀ w,AL 248 #[.agg (tl.map bv).toArray] w (Ai w (.tuple #[pv px py pi,.bool kb])):=λw=>by
  have h:=OC w _ hl
  rw [ep, ← hkb] at h
  exact h
 have cN:∀ w,AL 249 #[pv px py pi] w (Ai w (pv nx ny ni)):=λw=>by
  have h:=Nx w px py pi lpx lpy
  rw [dp,en] at h
  exact h
 have cE0:∀ w,AL 217 #[pv 0 0 true] w (A0 w (λvq Mq=>∃ (g:Nat) (sp:List Value) (cap:Nat),vq=.slice (pA g) 33 cap∧Mq=[(g,5,((encS none).map bv++sp).toArray)])):=λw=>by
  have h:=IB w 0 0 true dZ dZ
  rw [Kp] at h
  exact h
 have cE1:∀ w,AL 217 #[pv px py pi] w (A0 w (λvq Mq=>∃ (g:Nat) (sp:List Value) (cap:Nat),vq=.slice (pA g) 33 cap∧Mq=[(g,5,((encS (As tl)).map bv++sp).toArray)])):=λw=>by
  have h:=IB w px py pi lpx lpy
  rw [dp] at h
  exact h
 have cE2:∀ w,AL 217 #[pv nx ny ni] w (A0 w (λvq Mq=>∃ (g:Nat) (sp:List Value) (cap:Nat),vq=.slice (pA g) 33 cap∧Mq=[(g,5,((encS (Ec.neg (As tl))).map bv++sp).toArray)])):=λw=>by
  have h:=IB w nx ny ni lnx lny
  rw [dn] at h
  exact h
 refine Sy.enter (args:=[.slice (some ⟨ga,oa,none⟩) 33 cb]) Tryz.func222 J kL<|sC<|sM 57 (pcs 0 0 false) (λg0=>?_)
 refine sP (.bool false)<|sG<|Sy.seq<|sC<|sP (.slice (some ⟨ga,oa,none⟩) 33 cb)<|sP (.int .i64 33)<|sP (.bool false)<|sG<|sU<|Sy.skip<|sB<|sM 210 (List.replicate 32 (Value.int .u8 0)).toArray (λg1=>?_)
 refine sG<|Sy.seq<|sC<|sP (.int .i64 0)<|sG<|Sy.block<|Sy.loopT (Y:=Unit) 32 (λi _=>[(0,.slice (some ⟨ga,oa,none⟩) 33 cb),(2,pT g0 0),(4,pT g1 0),(5,.int .i64 (i:Int))]) (λi _=>[(g0,57,(pcs 0 0 false)),(g1,210,((tl.map bv).take i++List.replicate (32 - i) (Value.int .u8 0)).toArray)]) (λ_ _=>True) () trivial ac4 (λ_ h=>h) (λi _ hi _=>?_)
 dsimp only
 refine Sy.seq<|sC ?_
 obtain ⟨b0,hb0⟩:=xE (decide (i<32))
 refine sP (.int .i64 (i:Int))<|sS (.bool b0) (qls J J J hb0)<|sG ?_
 cases b0
 case' true =>
  have l2:=dY hb0
  obtain ⟨u,hd⟩:∃ u,tl.drop i=u::tl.drop (i+1):=⟨_,List.drop_eq_getElem_cons om⟩
  have hu:tl[i]? = some u:=by rw [← List.head?_drop,hd]; rfl
  have hz:List.replicate (32 - i) (Value.int .u8 0)=.int .u8 0::List.replicate (32 - (i+1)) (.int .u8 0):=by
   rw [show 32 - i=(32 - (i+1))+1 by omega]; rfl
  have hA:((tl.map bv).take i).length=i:=by rw [List.length_take,List.length_map,hl]; omega
  have hn:(tl.map bv).take (i+1)++List.replicate (32 - (i+1)) (Value.int .u8 0)=(tl.map bv).take i++(bv u::List.replicate (32 - (i+1)) (.int .u8 0)):=by
   rw [List.take_add_one,List.getElem?_map,hu,List.append_assoc]; rfl
  rw [hz]
  refine sT<|Sy.skip<|Sy.then_<|Sy.seq<|Sy.block<|Sy.region<|sP (.int .i64 (i:Int))<|sP (.slice (some ⟨ga,oa,none⟩) 33 cb)<|sP (.int .i64 (i:Int))<|sS (iZ (i+1)) (qad J J J)<|sS (.pointer (some ⟨ga,oa+(i+1),none⟩)) (Quiet.pure (λw=>H' 27 _ _ ga oa 33 cb (i+1) rfl J J kR kF om w))<|sS (bv u) (Quiet.thereOne ga (oa+(i+1)) 5 _ _ J J hs.1 _ (MH hs (i+1) _ (by rw [List.drop_succ_cons,hd]; rfl)) uy5 J)<|sS (.pointer (some ⟨g1,0+i*1,none⟩)) (Quiet.pure (BQ 210 _ _ _ g1 0 _ i 1 .i64 J J J HA kF l2))<|sw 1 J ((tl.map bv).take i++(bv u::List.replicate (32 - (i+1)) (Value.int .u8 0))).toArray (Writes.one (0+i*1) 5 (bv u) _ _ J J J kR J J (by rw [List.size_toArray,List.length_append,hA]; simp) (S7 (by rw [hA]; omega)))<|Sy.nil<|Sy.in_<|Sy.then_<|Sy.region<|sP (.int .i64 (i:Int))<|sS (iZ (i+1)) (qad J J J)<|sP (iZ (i+1))<|Sy.nil ?_
  exact Sy.againT () l2 trivial ac4 (λw h=>by rw [hn]; exact h)
 have l3:=dN hb0
 obtain rfl:i=32:=om
 have hT:(tl.map bv).take 32++List.replicate (32 - 32) (Value.int .u8 0)=tl.map bv:=by
  rw [List.take_of_length_le (by rw [List.length_map,hl]; exact Nat.le_refl _)]; exact List.append_nil _
 rw [hT]
 refine sU<|Sy.exit<|Sy.then_exit<|Sy.then_exit<|Sy.in_exit<|sB<|sS (.agg (tl.map bv).toArray) (Quiet.mid 1 g1 0 32 210 210 (tl.map bv) (tl.map bv) _ _ J kR J HA J kR (by rw [List.drop_zero,List.take_of_length_le (by rw [List.length_map,hl]; exact Nat.le_refl _)]) (by rw [List.length_map,hl]; exact Nat.le_refl _))<|sS (.tuple #[pv px py pi,.bool kb]) (qf cL)<|sP (.tuple #[pv px py pi,.bool kb])<|sP (pv px py pi)<|sP (.bool kb)<|sM 57 (pcs 0 0 false) (λg2=>?_)
 refine sw 2 J (pcs px py pi) (wA J)<|sP (.bool kb)<|sH (λj=>false) ?_
 refine sD 0 J (pv 0 0 true) (qf EJ)<|sD 1 J (pv px py pi) (qk 2 0 9 J J Am)<|sD 2 J (pv px py pi) (qk 2 0 9 J J Am)<|sD 3 J (pv nx ny ni) (qf cN)<|Sy.makeD 4 J kR kR 57 (pwr 0 0 true++(pwr px py pi++(pwr nx ny ni))).toArray (λg=>.slice (pA g) 3 3) kF (λg3=>?_)
 refine sZ 5 J (.slice (pA g3) 3 3)<|sI<|Sy.seq<|sC<|sP (.int .i64 0)<|sG<|Sy.block<|Sy.loopN 4<|Sy.tidyR (G:=[(0,.slice (some ⟨ga,oa,none⟩) 33 cb),(2,pT g0 0),(8,.slice (pA g3) 3 3),(9,.int .i64 0)]) (M:=[(g0,57,(pcs 0 0 false)),(g3,57,(pwr 0 0 true++(pwr px py pi++(pwr nx ny ni))).toArray)]) [true,false,false,true] kR ac4<|Sy.round<|Sy.seq<|sC<|sP (.int .i64 0)<|sP (.bool true)<|sG<|sT<|Sy.skip<|Sy.then_<|Sy.seq<|Sy.block<|Sy.seq<|Sy.regionD (λj=>false) kR ?_
 refine sZ 0 J (.slice (pA g3) 3 3)<|sZ 1 J (.int .i64 0)<|sZ 2 J (pT g3 0)<|sD 3 J (pv 0 0 true) (qk 1 0 9 J J Am)<|sZ 6 J (.slice (some ⟨ga,oa,none⟩) 33 cb)<|sD 7 J (.string ⟨((o0::tl)).toArray⟩) (JA (some ⟨ga,oa,none⟩) (o0::tl) 33 cb _ J J (by rw [List.length_cons,hl]) dZ hsr)<|Sy.callND 4 J kR kR 217 #[pv 0 0 true] kF (λvq Mq=>∃ (g:Nat) (sp:List Value) (cap:Nat),vq=.slice (pA g) 33 cap∧Mq=[(g,5,((encS none).map bv++sp).toArray)]) (λw _=>cE0 w) (λvq Mq hR0=>?_)
 obtain ⟨gq1,spq1,cpq1,rfl,rfl⟩:=hR0
 refine sD 5 J (.string ⟨((encS none)).toArray⟩) (JB 2 gq1 5 (encS none) spq1 33 cpq1 _ J J kR (encS_length _) dZ) ?_
 obtain ⟨b1,hb1⟩:=xE (decide ((encS none)=(o0::tl)))
 refine sD 8 J (.bool b1) (Quiet.pure (λw=>by rw [hb1]; exact F8 w _ _ _ _ _ _ J J J))<|sI ?_
 cases b1
 ·refine sU<|Sy.skip<|Sy.in_<|Sy.then_<|Sy.region ?_
  refine sP (.int .i64 0)<|sP (.int .i64 1)<|sP (.int .i64 1)<|Sy.nil<|Sy.again<|Sy.tidyR (G:=[(0,.slice (some ⟨ga,oa,none⟩) 33 cb),(2,pT g0 0),(8,.slice (pA g3) 3 3),(9,.int .i64 1)]) (M:=[(g0,57,(pcs 0 0 false)),(g3,57,(pwr 0 0 true++(pwr px py pi++(pwr nx ny ni))).toArray)]) [true,true,false] kR ac4<|Sy.round<|Sy.seq<|sC<|sP (.int .i64 1)<|sP (.bool true)<|sG<|sT<|Sy.skip<|Sy.then_<|Sy.seq<|Sy.block<|Sy.seq<|Sy.regionD (λj=>false) kR<|sZ 0 J (.slice (pA g3) 3 3)<|sZ 1 J (.int .i64 1)<|sZ 2 J (pT g3 9)<|sD 3 J (pv px py pi) (qk 1 9 9 J J Am)<|sZ 6 J (.slice (some ⟨ga,oa,none⟩) 33 cb)<|sD 7 J (.string ⟨((o0::tl)).toArray⟩) (JA (some ⟨ga,oa,none⟩) (o0::tl) 33 cb _ J J (by rw [List.length_cons,hl]) dZ hsr)<|Sy.callND 4 J kR kR 217 #[pv px py pi] kF (λvq Mq=>∃ (g:Nat) (sp:List Value) (cap:Nat),vq=.slice (pA g) 33 cap∧Mq=[(g,5,((encS (As tl)).map bv++sp).toArray)]) (λw _=>cE1 w) (λvq Mq hR0=>?_)
  obtain ⟨gq2,spq2,cpq2,rfl,rfl⟩:=hR0
  refine sD 5 J (.string ⟨((encS (As tl))).toArray⟩) (JB 2 gq2 5 (encS (As tl)) spq2 33 cpq2 _ J J kR (encS_length _) dZ) ?_
  obtain ⟨b2,hb2⟩:=xE (decide ((encS (As tl))=(o0::tl)))
  refine sD 8 J (.bool b2) (Quiet.pure (λw=>by rw [hb2]; exact F8 w _ _ _ _ _ _ J J J))<|sI ?_
  cases b2
  ·refine sU<|Sy.skip<|Sy.in_<|Sy.then_<|Sy.region ?_
   refine sP (.int .i64 1)<|sP (.int .i64 2)<|sP (.int .i64 2)<|Sy.nil<|Sy.again<|Sy.tidyR (G:=[(0,.slice (some ⟨ga,oa,none⟩) 33 cb),(2,pT g0 0),(8,.slice (pA g3) 3 3),(9,.int .i64 2)]) (M:=[(g0,57,(pcs 0 0 false)),(g3,57,(pwr 0 0 true++(pwr px py pi++(pwr nx ny ni))).toArray)]) [true,true,false] kR ac4<|Sy.round<|Sy.seq<|sC<|sP (.int .i64 2)<|sP (.bool true)<|sG<|sT<|Sy.skip<|Sy.then_<|Sy.seq<|Sy.block<|Sy.seq<|Sy.regionD (λj=>false) kR<|sZ 0 J (.slice (pA g3) 3 3)<|sZ 1 J (.int .i64 2)<|sZ 2 J (pT g3 18)<|sD 3 J (pv nx ny ni) (qk 1 18 9 J J Am)<|sZ 6 J (.slice (some ⟨ga,oa,none⟩) 33 cb)<|sD 7 J (.string ⟨((o0::tl)).toArray⟩) (JA (some ⟨ga,oa,none⟩) (o0::tl) 33 cb _ J J (by rw [List.length_cons,hl]) dZ hsr)<|Sy.callND 4 J kR kR 217 #[pv nx ny ni] kF (λvq Mq=>∃ (g:Nat) (sp:List Value) (cap:Nat),vq=.slice (pA g) 33 cap∧Mq=[(g,5,((encS (Ec.neg (As tl))).map bv++sp).toArray)]) (λw _=>cE2 w) (λvq Mq hR0=>?_)
   obtain ⟨gq3,spq3,cpq3,rfl,rfl⟩:=hR0
   refine sD 5 J (.string ⟨((encS (Ec.neg (As tl)))).toArray⟩) (JB 2 gq3 5 (encS (Ec.neg (As tl))) spq3 33 cpq3 _ J J kR (encS_length _) dZ) ?_
   obtain ⟨b3,hb3⟩:=xE (decide ((encS (Ec.neg (As tl)))=(o0::tl)))
   refine sD 8 J (.bool b3) (Quiet.pure (λw=>by rw [hb3]; exact F8 w _ _ _ _ _ _ J J J))<|sI ?_
   cases b3
   ·refine sU<|Sy.skip<|Sy.in_<|Sy.then_<|Sy.region ?_
    refine sP (.int .i64 2)<|sP (.int .i64 3)<|sP (.int .i64 3)<|Sy.nil<|Sy.again<|Sy.tidyR (G:=[(0,.slice (some ⟨ga,oa,none⟩) 33 cb),(2,pT g0 0),(8,.slice (pA g3) 3 3),(9,.int .i64 3)]) (M:=[(g0,57,(pcs 0 0 false)),(g3,57,(pwr 0 0 true++(pwr px py pi++(pwr nx ny ni))).toArray)]) [true,true,false] kR ac4<|Sy.round<|Sy.seq<|sC<|sP (.int .i64 3)<|sP (.bool false)<|sG<|sU<|Sy.exit<|Sy.then_exit<|Sy.then_exit<|Sy.in_exit<|sB<|sS (pv 0 0 true) (qf EJ)<|sw 0 J (pcs 0 0 true) (wA J)<|sP (.bool false)<|sG<|Sy.ret ?_
    rw [show (.tuple #[ptv (decP (o0::tl)),.bool (decOk (o0::tl))]:Value)=.tuple #[pv 0 0 true,.bool false] from by
     have hd:decOk (o0::tl)=false:=by
      unfold decOk
      refine decide_eq_false (λk=>?_)
      rcases SI o0 tl with hc | hc
      ·rw [hc] at k
       exact of_decide_eq_false hb3.symm k.2
      ·rw [hc] at k
       exact of_decide_eq_false hb2.symm k.2
     rw [hd,GA hd]; rfl]
    exact Sy.ret2 (v:=pv 0 0 true) (u:=.bool false) rfl (.inl (Res.cell (ty':=57) g0 0 (pcs 0 0 true) _ kR kR Am J kR kR)) (.inl (show _=_ by kernel_rfl))
   ·refine sT<|sC ?_
    refine sP (.slice (pA g3) 3 3)<|sP (.int .i64 2)<|sP (pT g3 18)<|sS (pv nx ny ni) (qk 1 18 9 J J Am)<|sw 0 J (pcs nx ny ni) (wA J)<|sP (.bool true)<|sG<|Sy.ret<|Sy.in_ret<|Sy.then_ret<|Sy.then_ret<|Sy.in_ret<|Sy.then_ret ?_
    rw [show (.tuple #[ptv (decP (o0::tl)),.bool (decOk (o0::tl))]:Value)=.tuple #[pv nx ny ni,.bool true] from by
     have hd:=dec_enc (P:=(Ec.neg (As tl))) (Ec.On.neg (DF tl))
     rw [of_decide_eq_true hb3.symm] at hd
     rw [hd.1,hd.2,en]]
    exact Sy.ret2 (v:=pv nx ny ni) (u:=.bool true) rfl (.inl (Res.cell (ty':=57) g0 0 (pcs nx ny ni) _ kR kR Am J kR kR)) (.inl (show _=_ by kernel_rfl))
  ·refine sT<|sC ?_
   refine sP (.slice (pA g3) 3 3)<|sP (.int .i64 1)<|sP (pT g3 9)<|sS (pv px py pi) (qk 1 9 9 J J Am)<|sw 0 J (pcs px py pi) (wA J)<|sP (.bool true)<|sG<|Sy.ret<|Sy.in_ret<|Sy.then_ret<|Sy.then_ret<|Sy.in_ret<|Sy.then_ret ?_
   rw [show (.tuple #[ptv (decP (o0::tl)),.bool (decOk (o0::tl))]:Value)=.tuple #[pv px py pi,.bool true] from by
    have hd:=dec_enc (P:=(As tl)) (DF tl)
    rw [of_decide_eq_true hb2.symm] at hd
    rw [hd.1,hd.2,ep]]
   exact Sy.ret2 (v:=pv px py pi) (u:=.bool true) rfl (.inl (Res.cell (ty':=57) g0 0 (pcs px py pi) _ kR kR Am J kR kR)) (.inl (show _=_ by kernel_rfl))
 ·refine sT<|sC ?_
  refine sP (.slice (pA g3) 3 3)<|sP (.int .i64 0)<|sP (pT g3 0)<|sS (pv 0 0 true) (qk 1 0 9 J J Am)<|sw 0 J (pcs 0 0 true) (wA J)<|sP (.bool true)<|sG<|Sy.ret<|Sy.in_ret<|Sy.then_ret<|Sy.then_ret<|Sy.in_ret<|Sy.then_ret ?_
  rw [show (.tuple #[ptv (decP (o0::tl)),.bool (decOk (o0::tl))]:Value)=.tuple #[pv 0 0 true,.bool true] from by
   have hd:=dec_enc (P:=none) (show Ec.On none from trivial)
   rw [of_decide_eq_true hb1.symm] at hd
   rw [hd.1,hd.2]; rfl]
  exact Sy.ret2 (v:=pv 0 0 true) (u:=.bool true) rfl (.inl (Res.cell (ty':=57) g0 0 (pcs 0 0 true) _ kR kR Am J kR kR)) (.inl (show _=_ by kernel_rfl))
theorem decodeR_any (w:World) (A:Option Addr) (b:Ao) (n c:Nat) (hn:b.length=n) (hs:Src w A b) (hc:n≤c):Calls Tryz.prog 222 #[.slice A n c] w (Ai w (.tuple #[ptv (decP b),.bool (decOk b)])):=by
 by_cases h:n=33
 ·subst h
  have hs':=hs
  obtain ⟨ga,oa,rfl,hl,hcell⟩:=hs (by intro e; rw [e] at hn; cases hn)
  obtain ⟨o0,tl,rfl⟩:∃ x l,b=x::l:=by
   cases b with
   | nil=>cases hn
   | cons x l=>exact ⟨x,l,rfl⟩
  exact SC w ga oa c o0 tl (by rw [List.length_cons] at hn; omega) (SrcL.of hl hcell) hs' hc
 ·have hd:decOk b=false:=by unfold decOk; exact decide_eq_false (λk=>h (hn ▸ k.1))
  rw [hd,GA hd]
  exact QY w A n c h
end Cu
end
section
namespace Wr
open Go.RowKit Sy
theorem MB (ok bad:Bool) (b x:Byt) (k:Nat) (h:x.length≤k):Wrote ok x k bad b (bad || !ok) (b++x):=by
 have q:=(Wrote.must ok bad b).then_ (Wrote.raw x (bad || !ok) b h)
 rw [Bool.and_true,List.nil_append,Nat.zero_add] at q
 exact q
theorem Hl (w0:Base) (gw:Nat) (bad:Bool) (s:Slc) (R:AA) (b:Byt) (p:MPt) (h1:p.x<Cu.K4) (h2:p.y<Cu.K4) (hb:BS s b) (hl:b.length+33≤70368744177000) (w:World) (hw:St w0 w (WB gw bad s R)) :
  AL 178 #[ptr gw,.agg (lPT p).toArray] w (AQ w0 (Wd gw R (Ek p) (CN p) 33 bad b)):=by
 refine Sy.enterT (args:=[ptr gw,.agg (lPT p).toArray]) hw Tryz.func178 J kL<|sC<|sM 57 (lPT p).toArray (λg3=>?_) kR (λw=>An J J kZ (Cb p) w)
 refine Sy.permS (M:=WB gw bad s (R++[(g3,57,(lPT p).toArray)])) (List.Perm.of_eq (by simp only [List.append_assoc])) ?_
 have X0:XAt (rdC w0.inn [(g3,57,(lPT p).toArray)]) g3 0 ((lPT p)):=λi u hu=>.inr ⟨_,_,List.mem_singleton.2 J,by rw [Nat.zero_add,List.getElem?_toArray]; exact hu⟩
 have X8:XAt (rdC w0.inn [(g3,57,(lPT p).toArray)]) g3 8 [.bool p.i]:=(X0.right (n:=4) rfl).right (n:=4) rfl
 obtain ⟨b1,hb1⟩:=xE (Cu.rightB p.x p.y p.i)
 obtain ⟨ok,hok⟩:=xE (Ek p)
 have e:ok=(b1 && !p.i):=by rw [hok,hb1]; rfl
 refine sA<|sp J<|sS (.agg (lPT p).toArray) (Bd (R:=[(g3,57,(lPT p).toArray)]) (g:=g3) (f:=0) (k:=9) (cs:=lPT p) X0 (λy hy=>BA (List.mem_append_right R hy)) (Cb p) rfl Am)<|sS (.bool b1) (qg (λw hw=>by rw [hb1]; exact Cu.rightR_b w _ _ _ h1 h2))<|sp J ?_
 rw [← hok]
 cases b1
 case' false =>
  obtain rfl:ok=false:=e
  refine sN<|sN<|sN<|sP (.bool false)<|Sy.callT (λw hw=>BF w0.inn gw bad false s (R++[(g3,57,(lPT p).toArray)]) w hw) (λu M hM=>?_)
 case' true =>
  obtain rfl:ok=!p.i:=e
  refine sP (pT g3 8)<|sS (.bool p.i) (AH (R:=[(g3,57,(lPT p).toArray)]) (g:=g3) (f:=8) X8.one (λy hy=>BA (List.mem_append_right R hy)) J uy4)<|sP (.bool (!p.i))<|sP (.bool (!p.i))<|Sy.callT (λw hw=>BF w0.inn gw bad (!p.i) s (R++[(g3,57,(lPT p).toArray)]) w hw) (λu M hM=>?_)
 all_goals
  subst hM
  refine Sy.nil<|Sy.then_<|Sy.region<|sp J<|sS (.agg (lPT p).toArray) (Bd (R:=[(g3,57,(lPT p).toArray)]) (g:=g3) (f:=0) (k:=9) (cs:=lPT p) X0 (λy hy=>BA (List.mem_append_right R hy)) (Cb p) rfl Am)<|Sy.callN kR 217 #[Cu.pv p.x p.y p.i] kF _ (λw' _=>Cu.encW_any w' p.x p.y p.i h1 h2) (λu M hM=>?_)
  obtain ⟨g,sq,cap,rfl,⟨hc1,hc2⟩,rfl⟩:=hM
 ·have hB:BytR (rdC w0.inn ((R++[(g3,57,(lPT p).toArray)])++[(g,5,((CN p).map bv++sq).toArray)])) (.slice (pA g) 33 cap) (CN p):=⟨_,_,_,rfl,by first | exact CJ p | exact (CJ p).symm,hc1,hc2,λ_=>⟨g,0,rfl,λj y hj=>.inr ⟨5,_,List.mem_append_right _ (List.mem_singleton.2 J),by rw [Nat.zero_add,List.getElem?_toArray,List.getElem?_append_left (by rw [List.length_map]; exact (List.getElem?_eq_some_iff.1 hj).1),List.getElem?_map,hj]; rfl⟩⟩⟩
  refine Sy.permS (M:=WB gw (bad || !(!p.i)) s ((R++[(g3,57,(lPT p).toArray)])++[(g,5,((CN p).map bv++sq).toArray)])) (List.Perm.of_eq (by simp only [List.append_assoc]; rfl))<|Sy.callT (λw hw=>CH w0.inn gw (bad || !(!p.i)) s ((R++[(g3,57,(lPT p).toArray)])++[(g,5,((CN p).map bv++sq).toArray)]) b _ (CN p) hb hB (by rw [CJ]; omega) w hw) (λv M hM=>?_)
  obtain ⟨r,hr,rfl⟩:=hM
  refine Sy.nil ?_
  exact Sy.retT0 J (WB gw (bad || !(!p.i)) r R) (λ_ h=>CQ (by simpa only [List.append_assoc] using h)) (λ_=>⟨r,bad || !(!p.i),b++CN p,MB (!p.i) bad b (CN p) 33 (by rw [CJ]; exact Nat.le_refl _),hr,rfl⟩)
 ·have hB:BytR (rdC w0.inn ((R++[(g3,57,(lPT p).toArray)])++[(g,5,((CN p).map bv++sq).toArray)])) (.slice (pA g) 33 cap) (CN p):=⟨_,_,_,rfl,by first | exact CJ p | exact (CJ p).symm,hc1,hc2,λ_=>⟨g,0,rfl,λj y hj=>.inr ⟨5,_,List.mem_append_right _ (List.mem_singleton.2 J),by rw [Nat.zero_add,List.getElem?_toArray,List.getElem?_append_left (by rw [List.length_map]; exact (List.getElem?_eq_some_iff.1 hj).1),List.getElem?_map,hj]; rfl⟩⟩⟩
  refine Sy.permS (M:=WB gw (bad || !(false)) s ((R++[(g3,57,(lPT p).toArray)])++[(g,5,((CN p).map bv++sq).toArray)])) (List.Perm.of_eq (by simp only [List.append_assoc]; rfl))<|Sy.callT (λw hw=>CH w0.inn gw (bad || !(false)) s ((R++[(g3,57,(lPT p).toArray)])++[(g,5,((CN p).map bv++sq).toArray)]) b _ (CN p) hb hB (by rw [CJ]; omega) w hw) (λv M hM=>?_)
  obtain ⟨r,hr,rfl⟩:=hM
  refine Sy.nil ?_
  exact Sy.retT0 J (WB gw (bad || !(false)) r R) (λ_ h=>CQ (by simpa only [List.append_assoc] using h)) (λ_=>⟨r,bad || !(false),b++CN p,MB false bad b (CN p) 33 (by rw [CJ]; exact Nat.le_refl _),hr,rfl⟩)
theorem Oh (w0:Base) (gw:Nat) (bad:Bool) (s:Slc) (R:AA) (b:Byt) (t:MTag) (h1:t.id.length=32) (h2:t.pt.x<Cu.K4) (h3:t.pt.y<Cu.K4) (hb:BS s b) (hl:b.length+34≤70368744177000) (w:World) (hw:St w0 w (WB gw bad s R)) :
  AL 123 #[ptr gw,.agg (cTG t).toArray] w (AQ w0 (Wd gw R (Nv t) (IA t) 34 bad b)):=by
 obtain ⟨bl,id,p⟩:=t
 dsimp only at h1 h2 h3
 have e1:(id.map bv).length=32:=by rw [List.length_map,h1]
 have hlen:(cTG ⟨bl,id,p⟩).length=42:=ET h1
 refine Sy.enterT (args:=[ptr gw,.agg (cTG ⟨bl,id,p⟩).toArray]) hw Tryz.func123 J kL<|sC<|sM 59 (cTG ⟨bl,id,p⟩).toArray (λg3=>?_) kR (λw=>An J J kZ hlen w)
 refine Sy.permS (M:=WB gw bad s (R++[(g3,59,(cTG ⟨bl,id,p⟩).toArray)])) (List.Perm.of_eq (by simp only [List.append_assoc])) ?_
 have X0:XAt (rdC w0.inn [(g3,59,(cTG ⟨bl,id,p⟩).toArray)]) g3 0 ((cTG ⟨bl,id,p⟩)):=λi u hu=>.inr ⟨_,_,List.mem_singleton.2 J,by rw [Nat.zero_add,List.getElem?_toArray]; exact hu⟩
 have Y1:XAt (rdC w0.inn [(g3,59,(cTG ⟨bl,id,p⟩).toArray)]) g3 1 (id.map bv++lPT p):=X0.right (n:=1) rfl
 have X1:=Y1.left
 have X2:XAt (rdC w0.inn [(g3,59,(cTG ⟨bl,id,p⟩).toArray)]) g3 33 (lPT p):=Y1.right e1
 have q0:=Wrote.raw [trB bl] bad b (k:=1) (Nat.le_refl _)
 have l0:(b++[trB bl]).length=b.length+1:=by rw [List.length_append]; rfl
 refine sA<|sp J<|sP (pT g3 0)<|sS (.bool bl) (AH (R:=[(g3,59,(cTG ⟨bl,id,p⟩).toArray)]) (g:=g3) (f:=0) X0.one (λy hy=>BA (List.mem_append_right R hy)) J uy4)<|Sy.callT (λw hw=>HN w0.inn gw bad s (R++[(g3,59,(cTG ⟨bl,id,p⟩).toArray)]) b bl hb om w hw) (λv M hM=>?_)
 obtain ⟨r,k1,rfl⟩:=hM
 refine sG<|Sy.seq<|sC<|sP (pT g3 0)<|sS (.bool bl) (AH (R:=[(g3,59,(cTG ⟨bl,id,p⟩).toArray)]) (g:=g3) (f:=0) X0.one (λy hy=>BA (List.mem_append_right R hy)) J uy4)<|sG ?_
 cases bl
 case' true =>
  refine sT<|sC ?_
  obtain ⟨ok,hok⟩:=xE (decide (id=z32))
  refine sp J<|sP (pT g3 1)<|sS (.agg (id.map bv).toArray) (Bd (R:=[(g3,59,(cTG ⟨true,id,p⟩).toArray)]) (g:=g3) (f:=1) (k:=32) (cs:=id.map bv) X1 (λy hy=>BA (List.mem_append_right R hy)) e1 J DI)<|sP (.agg (z32.map bv).toArray)<|sS (.bool ok) (Quiet.pure (λw=>by rw [hok]; exact ES w _ _ _ _ id z32 h1 J J J J))<|Sy.callT (λw hw=>BF w0.inn gw bad ok r (R++[(g3,59,(cTG ⟨true,id,p⟩).toArray)]) w hw) (λu M hM=>?_)
  subst hM
  refine sA<|sp J<|sP (pT g3 33)<|sS (.agg (lPT p).toArray) (Bd (R:=[(g3,59,(cTG ⟨true,id,p⟩).toArray)]) (g:=g3) (f:=33) (k:=9) (cs:=lPT p) X2 (λy hy=>BA (List.mem_append_right R hy)) (Cb p) rfl Am)<|Sy.callT (λw hw=>Hl w0.inn gw (bad || !ok) r (R++[(g3,59,(cTG ⟨true,id,p⟩).toArray)]) (b++[trB true]) p h2 h3 k1 om w hw) (λu M hM=>?_)
  obtain ⟨r2,bad2,b2,q2,k2,rfl⟩:=hM
  have q:=q0.then_ ((Wrote.must ok bad (b++[trB true])).then_ q2)
  rw [Bool.true_and,List.nil_append,Nat.zero_add,Bool.and_comm,hok] at q
  refine sG<|Sy.ret<|Sy.then_ret ?_
  exact Sy.retT0 J (WB gw bad2 r2 R) (λ_ h=>CQ h) (λ_=>⟨r2,bad2,b2,q,k2,rfl⟩)
 refine sU<|Sy.skip<|sB ?_
 obtain ⟨ok,hok⟩:=xE (FD p)
 refine sp J<|sP (pT g3 33)<|sS (Cu.pv p.x p.y p.i) (Bd (R:=[(g3,59,(cTG ⟨false,id,p⟩).toArray)]) (g:=g3) (f:=33) (k:=9) (cs:=lPT p) X2 (λy hy=>BA (List.mem_append_right R hy)) (Cb p) rfl Am)<|sP (Cu.pv 0 0 false)<|sS (.bool ok) (Quiet.pure (λw=>by rw [hok]; exact Cu.eql_pt w _ _ _ _ p.x p.y p.i 0 0 false J J J h2 h3 dZ dZ))<|Sy.callT (λw hw=>BF w0.inn gw bad ok r (R++[(g3,59,(cTG ⟨false,id,p⟩).toArray)]) w hw) (λu M hM=>?_)
 subst hM
 refine Sy.nil<|Sy.then_<|Sy.region<|sp J<|sP (pT g3 1)<|sS (.agg (id.map bv).toArray) (Bd (R:=[(g3,59,(cTG ⟨false,id,p⟩).toArray)]) (g:=g3) (f:=1) (k:=32) (cs:=id.map bv) X1 (λy hy=>BA (List.mem_append_right R hy)) e1 J DI)<|Sy.callT (λw hw=>Ko w0.inn gw (bad || !ok) r (R++[(g3,59,(cTG ⟨false,id,p⟩).toArray)]) (b++[trB false]) id h1 k1 om w hw) (λu M hM=>?_)
 obtain ⟨r2,k2,rfl⟩:=hM
 refine Sy.nil ?_
 have q2:=Wrote.raw id (bad || !ok) (b++[trB false]) (k:=33) om
 have q:=q0.then_ ((Wrote.must ok bad (b++[trB false])).then_ q2)
 rw [Bool.true_and,Bool.and_true,List.nil_append,Nat.zero_add,hok] at q
 exact Sy.retT0 J (WB gw (bad || !ok) r2 R) (λ_ h=>CQ h) (λ_=>⟨r2,bad || !ok,_,by rw [hok]; exact q,k2,rfl⟩)
theorem Gm (w0:Base) (gw:Nat) (bad:Bool) (s:Slc) (R:AA) (b:Byt) (t:MAmt) (h1:t.value<18446744073709551616) (h2:t.pt.x<Cu.K4) (h3:t.pt.y<Cu.K4) (hb:BS s b) (hl:b.length+34≤70368744177000) (w:World) (hw:St w0 w (WB gw bad s R)) :
  AL 124 #[ptr gw,.agg (cAM t).toArray] w (AQ w0 (Wd gw R (LO t) (Gk t) 34 bad b)):=by
 obtain ⟨bl,id,p⟩:=t
 dsimp only at h1 h2 h3
 have hlen:(cAM ⟨bl,id,p⟩).length=11:=rfl
 refine Sy.enterT (args:=[ptr gw,.agg (cAM ⟨bl,id,p⟩).toArray]) hw Tryz.func124 J kL<|sC<|sM 61 (cAM ⟨bl,id,p⟩).toArray (λg3=>?_) kR (λw=>An J J kZ hlen w)
 refine Sy.permS (M:=WB gw bad s (R++[(g3,61,(cAM ⟨bl,id,p⟩).toArray)])) (List.Perm.of_eq (by simp only [List.append_assoc])) ?_
 have X0:XAt (rdC w0.inn [(g3,61,(cAM ⟨bl,id,p⟩).toArray)]) g3 0 ((cAM ⟨bl,id,p⟩)):=λi u hu=>.inr ⟨_,_,List.mem_singleton.2 J,by rw [Nat.zero_add,List.getElem?_toArray]; exact hu⟩
 have X1:XAt (rdC w0.inn [(g3,61,(cAM ⟨bl,id,p⟩).toArray)]) g3 1 ([uZ (id:Int)]++lPT p):=X0.right (n:=1) rfl
 have X2:XAt (rdC w0.inn [(g3,61,(cAM ⟨bl,id,p⟩).toArray)]) g3 2 (lPT p):=X1.right (n:=1) rfl
 have q0:=Wrote.raw [trB bl] bad b (k:=1) (Nat.le_refl _)
 have l0:(b++[trB bl]).length=b.length+1:=by rw [List.length_append]; rfl
 refine sA<|sp J<|sP (pT g3 0)<|sS (.bool bl) (AH (R:=[(g3,61,(cAM ⟨bl,id,p⟩).toArray)]) (g:=g3) (f:=0) X0.one (λy hy=>BA (List.mem_append_right R hy)) J uy4)<|Sy.callT (λw hw=>HN w0.inn gw bad s (R++[(g3,61,(cAM ⟨bl,id,p⟩).toArray)]) b bl hb om w hw) (λv M hM=>?_)
 obtain ⟨r,k1,rfl⟩:=hM
 refine sG<|Sy.seq<|sC<|sP (pT g3 0)<|sS (.bool bl) (AH (R:=[(g3,61,(cAM ⟨bl,id,p⟩).toArray)]) (g:=g3) (f:=0) X0.one (λy hy=>BA (List.mem_append_right R hy)) J uy4)<|sG ?_
 cases bl
 case' true =>
  refine sT<|sC ?_
  obtain ⟨ok,hok⟩:=xE (decide (id=0))
  refine sp J<|sP (pT g3 1)<|sS (uZ (id:Int)) (AH (R:=[(g3,61,(cAM ⟨true,id,p⟩).toArray)]) (g:=g3) (f:=1) X1.one (λy hy=>BA (List.mem_append_right R hy)) J CF)<|sS (.bool ok) (Quiet.pure (AD .eql _ _ _ .u64 _ _ _ J J J (Ab _ _ _ _ _ (by rw [hok]; exact decide_eq_decide.2 om))))<|Sy.callT (λw hw=>BF w0.inn gw bad ok r (R++[(g3,61,(cAM ⟨true,id,p⟩).toArray)]) w hw) (λu M hM=>?_)
  subst hM
  refine sA<|sp J<|sP (pT g3 2)<|sS (.agg (lPT p).toArray) (Bd (R:=[(g3,61,(cAM ⟨true,id,p⟩).toArray)]) (g:=g3) (f:=2) (k:=9) (cs:=lPT p) X2 (λy hy=>BA (List.mem_append_right R hy)) (Cb p) rfl Am)<|Sy.callT (λw hw=>Hl w0.inn gw (bad || !ok) r (R++[(g3,61,(cAM ⟨true,id,p⟩).toArray)]) (b++[trB true]) p h2 h3 k1 om w hw) (λu M hM=>?_)
  obtain ⟨r2,bad2,b2,q2,k2,rfl⟩:=hM
  have q:=q0.then_ ((Wrote.must ok bad (b++[trB true])).then_ q2)
  rw [Bool.true_and,List.nil_append,Nat.zero_add,Bool.and_comm,hok] at q
  refine sG<|Sy.ret<|Sy.then_ret ?_
  exact Sy.retT0 J (WB gw bad2 r2 R) (λ_ h=>CQ h) (λ_=>⟨r2,bad2,b2,q,k2,rfl⟩)
 refine sU<|Sy.skip<|sB ?_
 obtain ⟨ok,hok⟩:=xE (FD p)
 refine sp J<|sP (pT g3 2)<|sS (Cu.pv p.x p.y p.i) (Bd (R:=[(g3,61,(cAM ⟨false,id,p⟩).toArray)]) (g:=g3) (f:=2) (k:=9) (cs:=lPT p) X2 (λy hy=>BA (List.mem_append_right R hy)) (Cb p) rfl Am)<|sP (Cu.pv 0 0 false)<|sS (.bool ok) (Quiet.pure (λw=>by rw [hok]; exact Cu.eql_pt w _ _ _ _ p.x p.y p.i 0 0 false J J J h2 h3 dZ dZ))<|Sy.callT (λw hw=>BF w0.inn gw bad ok r (R++[(g3,61,(cAM ⟨false,id,p⟩).toArray)]) w hw) (λu M hM=>?_)
 subst hM
 refine Sy.nil<|Sy.then_<|Sy.region<|sp J<|sP (pT g3 1)<|sS (uZ (id:Int)) (AH (R:=[(g3,61,(cAM ⟨false,id,p⟩).toArray)]) (g:=g3) (f:=1) X1.one (λy hy=>BA (List.mem_append_right R hy)) J CF)<|Sy.callT (λw hw=>KK w0.inn gw (bad || !ok) r (R++[(g3,61,(cAM ⟨false,id,p⟩).toArray)]) (b++[trB false]) id 8 h1 dZ k1 om w hw) (λu M hM=>?_)
 obtain ⟨r2,k2,rfl⟩:=hM
 refine Sy.nil ?_
 have q2:=Wrote.raw (nb 8 id) (bad || !ok) (b++[trB false]) (k:=33) (by rw [Ch]; decide)
 have q:=q0.then_ ((Wrote.must ok bad (b++[trB false])).then_ q2)
 rw [Bool.true_and,Bool.and_true,List.nil_append,Nat.zero_add,hok] at q
 exact Sy.retT0 J (WB gw (bad || !ok) r2 R) (λ_ h=>CQ h) (λ_=>⟨r2,bad || !ok,_,by rw [hok]; exact q,k2,rfl⟩)
theorem PP (w0:Base) (gw:Nat) (bad:Bool) (s:Slc) (R:AA) (b:Byt) (x:MOu) (cs:List Value) (hx:Cf (rdW w0.world) cs x) (hb:BS s b) (hl:b.length+Dv x≤70368744160000) (w:World) (hw:St w0 w (WB gw bad s R)) :
  AL 66 #[ptr gw,.agg cs.toArray] w (AQ w0 (Wd gw R (GO x) (F_ x) (Dv x) bad b)):=by
 obtain ⟨z,ta,am,rg,su,nt,sc⟩:=x
 obtain ⟨vr,vs,vn,vc,hcs,h1,h2,h3,h4,h5,h6⟩:=hx
 dsimp only at h1 h2 h3 h4 h5 h6
 unfold Dv at hl
 dsimp only at hl
 have hlen:cs.length=58:=by rw [hcs]; simp only [cOU,List.length_append,ET h1.1]; rfl
 refine Sy.enterT (args:=[ptr gw,.agg cs.toArray]) hw Tryz.func66 J kL<|sC<|sM 63 cs.toArray (λg3=>?_) kR (λw=>An J J kZ hlen w)
 refine Sy.permS (M:=WB gw bad s (R++[(g3,63,cs.toArray)])) (List.Perm.of_eq (by simp only [List.append_assoc])) ?_
 have hX:∀ l,l=cs→XAt (rdC w0.inn [(g3,63,cs.toArray)]) g3 0 l:=λl e i u hu=>.inr ⟨_,_,List.mem_singleton.2 J,by rw [Nat.zero_add,List.getElem?_toArray, ← e]; exact hu⟩
 have X0:XAt (rdC w0.inn [(g3,63,cs.toArray)]) g3 0 ([.int .i64 z]++(cTG ta++(cAM am++([vr]++([vs]++([vn]++([vc]))))))):=hX _ hcs.symm
 have X1:XAt (rdC w0.inn [(g3,63,cs.toArray)]) g3 1 (cTG ta++(cAM am++([vr]++([vs]++([vn]++([vc])))))):=X0.right (n:=1) rfl
 have X2:XAt (rdC w0.inn [(g3,63,cs.toArray)]) g3 43 (cAM am++([vr]++([vs]++([vn]++([vc]))))):=X1.right (ET h1.1)
 have X3:XAt (rdC w0.inn [(g3,63,cs.toArray)]) g3 54 ([vr]++([vs]++([vn]++([vc])))):=X2.right (n:=11) rfl
 have X4:XAt (rdC w0.inn [(g3,63,cs.toArray)]) g3 55 ([vs]++([vn]++([vc]))):=X3.right (n:=1) rfl
 have X5:XAt (rdC w0.inn [(g3,63,cs.toArray)]) g3 56 ([vn]++([vc])):=X4.right (n:=1) rfl
 have X6:XAt (rdC w0.inn [(g3,63,cs.toArray)]) g3 57 ([vc]):=X5.right (n:=1) rfl
 refine sA<|sp J<|sP (pT g3 0)<|sS (.int .i64 z) (AH (R:=[(g3,63,cs.toArray)]) (g:=g3) (f:=0) X0.one (λy hy=>BA (List.mem_append_right R hy)) J uy3)<|Sy.callT (λw hw=>FK w0.inn gw bad s (R++[(g3,63,cs.toArray)]) b 1 4 z hb om w hw) (λu M hM=>?_)
 obtain ⟨s1,bad1,b1,q1,p1,rfl⟩:=hM
 have l1:b1.length≤b.length+1:=q1.len
 refine sA<|sp J<|sP (pT g3 1)<|sS (.agg (cTG ta).toArray) (Bd (R:=[(g3,63,cs.toArray)]) (g:=g3) (f:=1) (k:=42) (cs:=cTG ta) X1.left (λy hy=>BA (List.mem_append_right R hy)) (ET h1.1) rfl Ob)<|Sy.callT (λw hw=>Oh w0.inn gw bad1 s1 (R++[(g3,63,cs.toArray)]) b1 ta h1.1 h1.2.1 h1.2.2 p1 om w hw) (λu M hM=>?_)
 obtain ⟨s2,bad2,b2,q2,p2,rfl⟩:=hM
 have l2:b2.length≤b1.length+34:=q2.len
 refine sA<|sp J<|sP (pT g3 43)<|sS (.agg (cAM am).toArray) (Bd (R:=[(g3,63,cs.toArray)]) (g:=g3) (f:=43) (k:=11) (cs:=cAM am) X2.left (λy hy=>BA (List.mem_append_right R hy)) J J Jx)<|Sy.callT (λw hw=>Gm w0.inn gw bad2 s2 (R++[(g3,63,cs.toArray)]) b2 am h2.1 h2.2.1 h2.2.2 p2 om w hw) (λu M hM=>?_)
 obtain ⟨s3,bad3,b3,q3,p3,rfl⟩:=hM
 have l3:b3.length≤b2.length+34:=q3.len
 refine sA<|sp J<|sP (pT g3 54)<|sS vr (AH (R:=[(g3,63,cs.toArray)]) (g:=g3) (f:=54) X3.one (λy hy=>BA (List.mem_append_right R hy)) J Ay)<|Sy.callT (λw hw=>Co w0.inn gw bad3 s3 (R++[(g3,63,cs.toArray)]) b3 vr rg 6000 dZ p3 h3 om w hw) (λu M hM=>?_)
 obtain ⟨s4,bad4,b4,q4,p4,rfl⟩:=hM
 have l4:b4.length≤b3.length+(9+rg.length):=q4.len
 refine sA<|sp J<|sP (pT g3 55)<|sS vs (AH (R:=[(g3,63,cs.toArray)]) (g:=g3) (f:=55) X4.one (λy hy=>BA (List.mem_append_right R hy)) J Ay)<|Sy.callT (λw hw=>Co w0.inn gw bad4 s4 (R++[(g3,63,cs.toArray)]) b4 vs su 6000 dZ p4 h4 om w hw) (λu M hM=>?_)
 obtain ⟨s5,bad5,b5,q5,p5,rfl⟩:=hM
 have l5:b5.length≤b4.length+(9+su.length):=q5.len
 refine sA<|sp J<|sP (pT g3 56)<|sS vn (AH (R:=[(g3,63,cs.toArray)]) (g:=g3) (f:=56) X5.one (λy hy=>BA (List.mem_append_right R hy)) J Ay)<|Sy.callT (λw hw=>Co w0.inn gw bad5 s5 (R++[(g3,63,cs.toArray)]) b5 vn nt 128 dZ p5 h5 om w hw) (λu M hM=>?_)
 obtain ⟨s6,bad6,b6,q6,p6,rfl⟩:=hM
 have l6:b6.length≤b5.length+(9+nt.length):=q6.len
 refine Sy.nil<|Sy.then_<|Sy.region<|sp J<|sP (pT g3 57)<|sS vc (AH (R:=[(g3,63,cs.toArray)]) (g:=g3) (f:=57) X6.one (λy hy=>BA (List.mem_append_right R hy)) J Ay)<|Sy.callT (λw hw=>Co w0.inn gw bad6 s6 (R++[(g3,63,cs.toArray)]) b6 vc sc 256 dZ p6 h6 om w hw) (λu M hM=>?_)
 obtain ⟨s7,bad7,b7,q7,p7,rfl⟩:=hM
 have l7:b7.length≤b6.length+(9+sc.length):=q7.len
 refine Sy.nil ?_
 have q:=q1.then_ (q2.then_ (q3.then_ (q4.then_ (q5.then_ (q6.then_ q7)))))
 exact Sy.retT0 J (WB gw bad7 s7 R) (λ_ h=>CQ h) (λ_=>⟨s7,bad7,b7,q,p7,rfl⟩)
theorem Hm (w0:Base) (gr:Nat) (sl:Value) (b:Byt) (at_ e:Nat) (R:AA) (hat:at_≤b.length) (he:e≤200) (hl:b.length≤70368744177664) (hv:BytR (rdW w0.world) sl b) (w:World) (hw:St w0 w (RB gr sl at_ e R)) :
  AL 182 #[ptr gr] w (AQ w0 (Rfd ptP (λx v N=>v=.agg (lPT x).toArray∧N=[]∧x.x<Cu.K4∧x.y<Cu.K4) gr sl b R at_ e)):=by
 refine Sy.enterT (args:=[ptr gr]) hw Tryz.func182 J kL<|sC<|sM 57 (lPT ⟨0,0,false⟩).toArray (λg2=>?_)
 refine Sy.movT (pre:=[(gr,166,rrC sl at_ e)]) (T:=R)<|sA<|sp J<|Sy.callT (λw hw=>D6 w0.inn gr sl b at_ e 33 ((g2,57,(lPT ⟨0,0,false⟩).toArray)::R) hat he dZ hl hv w hw) (λu M hM=>?_)
 obtain ⟨x,a2,e2,N,q1,⟨q2,q3⟩,q4,q5,rfl⟩:=hM
 obtain ⟨A,n,cp,rfl,k2,k3,k4,k5⟩:=q2.byt
 obtain ⟨gb,ob,rfl,hq⟩:=k5 (by intro h; rw [h] at q3; cases q3)
 obtain ⟨m,hm⟩:=xE (mPt (Cu.decP x))
 obtain ⟨hx,hy⟩:=La (Cu.decP x)
 rw [← hm] at hx hy
 obtain ⟨ok,hok⟩:=xE (Cu.decOk x)
 have hz:ok=false→m.i=true:=λh=>by
  rw [hm]; unfold Cu.decP; rw [← hok,h]; rfl
 obtain ⟨mx,my,mi⟩:=m
 dsimp only at hx hy hz
 refine sS (.tuple #[.agg (lPT ⟨mx,my,mi⟩).toArray,.bool ok]) (qg (λw' hw'=>by
  rw [hm, ← Mi,hok]
  refine Cu.decodeR_any w' (some ⟨gb,ob,none⟩) x n cp om (λ_=>?_) k3
  have hf:=B_ hw' (R:=N) (λy hy=>by simp [hy])
  have hc:∀ j u,x[j]? = some u→gb<w'.heap.size∧w'.cell? ⟨gb,ob+j,none⟩=some (bv u):=λj u hu=>hf _ _ _ (hq j u hu)
  exact ⟨gb,ob,rfl,(hc 0 _ (List.getElem?_eq_getElem om)).1,λj u hu=>(hc j u hu).2⟩))<|sp J<|sp J<|sp J ?_
 refine sM 57 (lPT ⟨0,0,false⟩).toArray (λg3=>?_)
 refine Sy.movT (pre:=[(gr,166,rrC sl a2 e2),(g2,57,(lPT ⟨0,0,false⟩).toArray)]) (T:=R++N)<|sw 2 J (lPT ⟨mx,my,mi⟩).toArray (Writes.row 57 (lPT ⟨mx,my,mi⟩) 9 _ _ J kR kR kR J kZ (CD _))<|sp J<|sG<|Sy.seq<|sC<|sp J<|sP (.bool (!ok))<|sP (.bool (!ok)) ?_
 cases ok
 case' false =>
  obtain rfl:mi=true:=hz J
  refine sN<|sN<|sP (.bool true)<|sG<|sT<|Sy.region<|sp J<|Sy.callT (λw hw=>E4 w0.inn gr sl a2 e2 ((g2,57,(lPT ⟨0,0,false⟩).toArray)::(g3,57,(lPT ⟨mx,my,true⟩).toArray)::(R++N)) w hw) (λu M hM=>?_)
  subst hM
  refine Sy.nil<|sB<|sS (.agg (lPT ⟨mx,my,true⟩).toArray) (Quiet.mid 2 g3 0 9 57 57 (lPT ⟨mx,my,true⟩) (lPT ⟨mx,my,true⟩) _ _ J kR J Am J kR (by rw [List.drop_zero]; exact List.take_of_length_le (Nat.le_refl 9)) (Nat.le_refl 9))<|sw 1 J (lPT ⟨mx,my,true⟩).toArray (Writes.row 57 (lPT ⟨mx,my,true⟩) 9 _ _ J kR kR kR J kZ (CD _))<|sG<|Sy.ret ?_
  have hAf:After ptP ⟨b.drop at_,e⟩ ⟨mx,my,true⟩ ⟨b.drop a2,(if e2=0 then 120 else e2)⟩:=q1.bind (by rw [← hm]; exact After.mustN _ (by show (if e2=0 then 120 else e2)≠0; split <;> omega))
  exact Sy.retT1 (RB gr sl a2 (if e2=0 then 120 else e2) (R++[])) J (.inl (Sy.Res.cell (ty':=57) g2 1 (lPT ⟨mx,my,true⟩).toArray _ kZ J Am J kZ J)) (λ_ h=>by rw [List.append_nil]; exact h.less ((((List.sublist_append_left R N).cons _).cons _).cons_cons _)) ⟨_,a2,(if e2=0 then 120 else e2),[],hAf,⟨rfl,rfl,hx,hy⟩,q4,(by split <;> omega),rfl⟩
 refine sP (pT g3 8)<|sS (.bool mi) (Quiet.cell 2 g3 8 57 4 (lPT ⟨mx,my,mi⟩).toArray _ _ J kR J uy4 J _ kR)<|sP (.bool mi)<|sG ?_
 cases mi
 ·refine sU<|Sy.skip<|sB ?_
  refine sS (.agg (lPT ⟨mx,my,false⟩).toArray) (Quiet.mid 2 g3 0 9 57 57 (lPT ⟨mx,my,false⟩) (lPT ⟨mx,my,false⟩) _ _ J kR J Am J kR (by rw [List.drop_zero]; exact List.take_of_length_le (Nat.le_refl 9)) (Nat.le_refl 9))<|sw 1 J (lPT ⟨mx,my,false⟩).toArray (Writes.row 57 (lPT ⟨mx,my,false⟩) 9 _ _ J kR kR kR J kZ (CD _))<|sG<|Sy.ret ?_
  have hAf:After ptP ⟨b.drop at_,e⟩ ⟨mx,my,false⟩ ⟨b.drop a2,e2⟩:=q1.bind (by rw [← hm]; exact After.ret _ _)
  exact Sy.retT1 (RB gr sl a2 e2 (R++[])) J (.inl (Sy.Res.cell (ty':=57) g2 1 (lPT ⟨mx,my,false⟩).toArray _ kZ J Am J kZ J)) (λ_ h=>by rw [List.append_nil]; exact h.less ((((List.sublist_append_left R N).cons _).cons _).cons_cons _)) ⟨_,a2,e2,[],hAf,⟨rfl,rfl,hx,hy⟩,q4,q5,rfl⟩
 ·refine sT<|Sy.region ?_
  refine sp J<|Sy.callT (λw hw=>E4 w0.inn gr sl a2 e2 ((g2,57,(lPT ⟨0,0,false⟩).toArray)::(g3,57,(lPT ⟨mx,my,true⟩).toArray)::(R++N)) w hw) (λu M hM=>?_)
  subst hM
  refine Sy.nil<|sB<|sS (.agg (lPT ⟨mx,my,true⟩).toArray) (Quiet.mid 2 g3 0 9 57 57 (lPT ⟨mx,my,true⟩) (lPT ⟨mx,my,true⟩) _ _ J kR J Am J kR (by rw [List.drop_zero]; exact List.take_of_length_le (Nat.le_refl 9)) (Nat.le_refl 9))<|sw 1 J (lPT ⟨mx,my,true⟩).toArray (Writes.row 57 (lPT ⟨mx,my,true⟩) 9 _ _ J kR kR kR J kZ (CD _))<|sG<|Sy.ret ?_
  have hAf:After ptP ⟨b.drop at_,e⟩ ⟨mx,my,true⟩ ⟨b.drop a2,(if e2=0 then 120 else e2)⟩:=q1.bind (by rw [← hm]; exact After.mustN _ (by show (if e2=0 then 120 else e2)≠0; split <;> omega))
  exact Sy.retT1 (RB gr sl a2 (if e2=0 then 120 else e2) (R++[])) J (.inl (Sy.Res.cell (ty':=57) g2 1 (lPT ⟨mx,my,true⟩).toArray _ kZ J Am J kZ J)) (λ_ h=>by rw [List.append_nil]; exact h.less ((((List.sublist_append_left R N).cons _).cons _).cons_cons _)) ⟨_,a2,(if e2=0 then 120 else e2),[],hAf,⟨rfl,rfl,hx,hy⟩,q4,(by split <;> omega),rfl⟩
theorem MI:AJ (DN 0 1) (λz=>BO (decide (z=1)))=HO:=by
 funext l
 cases h:Bj 1 l with
 | none =>
  have h1:DN 0 1 l=none:=by unfold DN; exact bind_none h
  have h2:CY l=none:=by unfold CY; exact bind_none h
  unfold HO
  rw [bind_none h1,bind_none h2]
 | some u =>
  obtain ⟨n,r⟩:=u
  have h2:CY l=some ((n:Int),r):=by unfold CY; rw [bind_some h]; rfl
  unfold HO
  rw [bind_some h2]
  by_cases hn:n≤1
  ·have h1:DN 0 1 l=some ((n:Int),r):=by
    unfold DN
    rw [bind_some h,decide_eq_true (show 0≤n∧n≤1 by omega)]
    rfl
   rw [bind_some h1,decide_eq_true (show (n:Int)≤1 by omega)]
   rfl
  ·have h1:DN 0 1 l=none:=by
    unfold DN
    rw [bind_some h,decide_eq_false (show ¬ (0≤n∧n≤1) by omega)]
    rfl
   rw [bind_none h1,decide_eq_false (show ¬ (n:Int)≤1 by omega)]
   rfl
theorem QA {place:Nat→Option (Nat×Nat)} {cs:Array Value}:Instr.fill place cs []=some cs:=by unfold Instr.fill; rfl
theorem R4 {place:Nat→Option (Nat×Nat)} {A B C c:List Value} {v:Value} {i n o:Nat} {rest:List (Nat×Value)} (hp:place i=some (o,n)) (hv:v.cells=c.toArray) (hA:A.length=o) (hB:B.length=n) (hc:c.length=n):Instr.fill place (A++(B++C)).toArray ((i,v)::rest)=Instr.fill place (A++(c++C)).toArray rest:=by
 conv=>lhs; unfold Instr.fill
 rw [hp]
 simp only [hv,List.size_toArray,hc,ne_eq,not_true_eq_false,decide_false,Bool.false_or]
 rw [if_neg (by simp only [List.length_append,hA,hB,decide_eq_true_eq]; omega)]
 have h1:c.toArray.zipIdx.foldl (λcs (x:Value×Nat)=>cs.setIfInBounds (o+x.2) x.1) (A++(B++C)).toArray=B9 (A++(B++C)).toArray (o+0) c:=by
  rw [← H9 c o 0, ← Array.foldl_toList,Array.toList_zipIdx]
 rw [h1,Nat.add_zero,DZ hA (hB.trans hc.symm)]
theorem Quiet.build1M {P:Program} {w0:Base} {F:AK} {L:AA} {o:Oper} (t:TypeId) (fs:Array Field) (it:TypeInfo) (A B C c:List Value) (v:Value) (i:Nat) (x:Operand) (f n:Nat) (ps:List (Nat×Nat)) (ho:o.op=.build t #[(i,x)]) (hx:evF F x=v) (hv:v.cells=c.toArray) (hu:P.underlying t=some (.struct fs)) (hit:P.info? t=some it) (hz:it.zero=some (.agg (A++(B++C)).toArray))
  (hpl:fs.toList.mapM (λf=>(P.info? f.type).map λi=>(f.offset,i.size))=some ps) (hpi:ps.toArray[i]? = some (f,n)) (hA:A.length=f) (hB:B.length=n) (hc:c.length=n):Quiet P w0 F L o (.agg (A++(c++C)).toArray):=Quiet.pure λw=>by
 have hb:P.built t #[(i,v)].toList=some (A++(c++C)).toArray:=by
  unfold Program.built
  rw [hit,hu]
  simp only [hz,hpl]
  show Instr.fill (λx=>ps.toArray[x]?) (A++(B++C)).toArray [(i,v)]=_
  exact (R4 (place:=λx=>ps.toArray[x]?) hpi hv hA hB hc).trans QA
 have hr:=run_build (P:=P) w t #[(i,v)] _ hb
 unfold execOp
 simp only [ho,Sem.run_bind,List.map_toArray,List.map_cons,List.map_nil,hx,hr,Result.andThen_ok,Sem.run_pure]
noncomputable def infTG:TypeInfo:=(Tryz.prog.info? 59).getD default
theorem Rt:Tryz.prog.info? 59=some infTG:=kZ
theorem Qp:infTG.zero=some (.agg ([Value.bool false]++(Z32++lPT ⟨0,0,false⟩)).toArray):=kZ
theorem MY {C:Rdr} {cs:List Value} {t:MTag} (h:Hd C cs t):∀ u∈cs,u.oneCell'=true:=by
 obtain ⟨rfl,_⟩:=h
 exact AG (λu hu=>by rw [List.mem_singleton.1 hu]; rfl) (AG (Bw _) (CD _))
theorem Ma {C:Rdr} {cs:List Value} {t:MAmt} (h:He C cs t):∀ u∈cs,u.oneCell'=true:=by
 obtain ⟨rfl,_⟩:=h
 exact AG (λu hu=>by rw [List.mem_singleton.1 hu]; rfl) (AG (λu hu=>by rw [List.mem_singleton.1 hu]; rfl) (CD _))
theorem Oi (w0:Base) (gr:Nat) (sl:Value) (b:Byt) (at_ e:Nat) (R:AA) (hat:at_≤b.length) (he:e≤200) (hl:b.length≤70368744177664) (hv:BytR (rdW w0.world) sl b) (w:World) (hw:St w0 w (RB gr sl at_ e R)) :
  AL 131 #[ptr gr] w (AQ w0 (Rfd J9 (J6 42 Hd) gr sl b R at_ e)):=by
 refine Sy.enterT (args:=[ptr gr]) hw Tryz.func131 J kL<|sC<|sM 59 ([Value.bool false]++(Z32++lPT ⟨0,0,false⟩)).toArray (λg2=>?_)
 refine Sy.movT (pre:=[(gr,166,rrC sl at_ e)]) (T:=R)<|sG<|Sy.seq<|sC<|sp J<|Sy.callT (λw hw=>DY 0 1 w0.inn gr sl b at_ e ((g2,59,([Value.bool false]++(Z32++lPT ⟨0,0,false⟩)).toArray)::R) hat he hl hv w hw) (λu M hM=>?_)
 obtain ⟨z1,a1,e1,N1,p1,⟨rfl,rfl⟩,u1,v1_,rfl⟩:=hM
 rw [List.append_nil ((g2,59,([Value.bool false]++(Z32++lPT ⟨0,0,false⟩)).toArray)::R)]
 obtain ⟨x1,hx1⟩:=xE (decide (z1=1))
 refine sS (.bool x1) (Quiet.pure (AD .eql _ _ _ .i64 _ _ _ J J J (Ab _ _ _ _ _ hx1.symm))) ?_
 have p1t:After HO ⟨b.drop at_,e⟩ x1 ⟨b.drop a1,e1⟩:=by rw [← MI,hx1]; exact p1.bind (After.ret _ _)
 refine sG ?_
 cases x1
 case' true =>
  refine sT<|sC<|sp J<|Sy.callT (λw hw=>Hm w0.inn gr sl b a1 e1 ((g2,59,([Value.bool false]++(Z32++lPT ⟨0,0,false⟩)).toArray)::R) u1 v1_ hl hv w hw) (λu M hM=>?_)
  obtain ⟨x2,a2,e2,N2,p2,⟨rfl,rfl,hx,hy⟩,u2,v2_,rfl⟩:=hM
  rw [List.append_nil ((g2,59,([Value.bool false]++(Z32++lPT ⟨0,0,false⟩)).toArray)::R)]
  have hrp:Hd (rdB []) (cTG ⟨true,z32,x2⟩) ⟨true,z32,x2⟩:=⟨rfl,rfl,hx,hy⟩
  have hln:(cTG ⟨true,z32,x2⟩).length=42:=rfl
  refine sP (.agg (cTG ⟨true,z32,x2⟩).toArray)<|sw 1 J (cTG ⟨true,z32,x2⟩).toArray (Writes.row 59 (cTG ⟨true,z32,x2⟩) 42 _ _ J kR kR kR hln kZ (MY hrp))<|sG<|Sy.ret<|Sy.then_ret ?_
  exact Sy.retT1 (RB gr sl a2 e2 (R++[])) J (.inl (Sy.Res.cell (ty':=59) g2 1 (cTG ⟨true,z32,x2⟩).toArray _ kZ J Ob J (by rw [List.size_toArray,hln]; kernel_rfl) rfl)) (λ_ h=>by rw [List.append_nil]; exact h.less ((List.Sublist.refl R).cons _ |>.cons_cons _)) ⟨_,a2,e2,[],p1t.bind (by rw [if_pos J]; exact p2.bind (After.ret _ _)),⟨(cTG ⟨true,z32,x2⟩),rfl,hln,MY hrp,hrp⟩,u2,v2_,rfl⟩
 refine sU<|Sy.skip<|sB<|sp J<|Sy.callT (λw hw=>EF w0.inn gr sl b a1 e1 ((g2,59,([Value.bool false]++(Z32++lPT ⟨0,0,false⟩)).toArray)::R) u1 v1_ hl hv w hw) (λu M hM=>?_)
 obtain ⟨x2,a2,e2,N2,p2,⟨rfl,r2,rfl⟩,u2,v2_,rfl⟩:=hM
 rw [List.append_nil ((g2,59,([Value.bool false]++(Z32++lPT ⟨0,0,false⟩)).toArray)::R)]
 have hrp:Hd (rdB []) (cTG ⟨false,x2,⟨0,0,false⟩⟩) ⟨false,x2,⟨0,0,false⟩⟩:=⟨rfl,r2,(show 0<Cu.K4 by decide),(show 0<Cu.K4 by decide)⟩
 have hln:(cTG ⟨false,x2,⟨0,0,false⟩⟩).length=42:=ET r2
 refine sS (.agg (cTG ⟨false,x2,⟨0,0,false⟩⟩).toArray) (Quiet.build1M 59 _ infTG [Value.bool false] Z32 (lPT ⟨0,0,false⟩) (x2.map bv) (.agg (x2.map bv).toArray) 1 _ 1 32 [(0,1),(1,32),(33,9)] rfl kR J Ob Rt Qp kZ J J DS ((List.length_map ..).trans r2))<|sw 1 J (cTG ⟨false,x2,⟨0,0,false⟩⟩).toArray (Writes.row 59 (cTG ⟨false,x2,⟨0,0,false⟩⟩) 42 _ _ J kR kR kR hln kZ (MY hrp))<|sG<|Sy.ret ?_
 exact Sy.retT1 (RB gr sl a2 e2 (R++[])) J (.inl (Sy.Res.cell (ty':=59) g2 1 (cTG ⟨false,x2,⟨0,0,false⟩⟩).toArray _ kZ J Ob J (by rw [List.size_toArray,hln]; kernel_rfl) rfl)) (λ_ h=>by rw [List.append_nil]; exact h.less ((List.Sublist.refl R).cons _ |>.cons_cons _)) ⟨_,a2,e2,[],p1t.bind (by rw [if_neg dZ]; exact p2.bind (After.ret _ _)),⟨(cTG ⟨false,x2,⟨0,0,false⟩⟩),rfl,hln,MY hrp,hrp⟩,u2,v2_,rfl⟩
theorem Gn (w0:Base) (gr:Nat) (sl:Value) (b:Byt) (at_ e:Nat) (R:AA) (hat:at_≤b.length) (he:e≤200) (hl:b.length≤70368744177664) (hv:BytR (rdW w0.world) sl b) (w:World) (hw:St w0 w (RB gr sl at_ e R)) :
  AL 132 #[ptr gr] w (AQ w0 (Rfd JJ (J6 11 He) gr sl b R at_ e)):=by
 refine Sy.enterT (args:=[ptr gr]) hw Tryz.func132 J kL<|sC<|sM 61 ([Value.bool false]++([Value.int .u64 0]++lPT ⟨0,0,false⟩)).toArray (λg2=>?_)
 refine Sy.movT (pre:=[(gr,166,rrC sl at_ e)]) (T:=R)<|sG<|Sy.seq<|sC<|sp J<|Sy.callT (λw hw=>DY 0 1 w0.inn gr sl b at_ e ((g2,61,([Value.bool false]++([Value.int .u64 0]++lPT ⟨0,0,false⟩)).toArray)::R) hat he hl hv w hw) (λu M hM=>?_)
 obtain ⟨z1,a1,e1,N1,p1,⟨rfl,rfl⟩,u1,v1_,rfl⟩:=hM
 rw [List.append_nil ((g2,61,([Value.bool false]++([Value.int .u64 0]++lPT ⟨0,0,false⟩)).toArray)::R)]
 obtain ⟨x1,hx1⟩:=xE (decide (z1=1))
 refine sS (.bool x1) (Quiet.pure (AD .eql _ _ _ .i64 _ _ _ J J J (Ab _ _ _ _ _ hx1.symm))) ?_
 have p1t:After HO ⟨b.drop at_,e⟩ x1 ⟨b.drop a1,e1⟩:=by rw [← MI,hx1]; exact p1.bind (After.ret _ _)
 refine sG ?_
 cases x1
 case' true =>
  refine sT<|sC<|sp J<|Sy.callT (λw hw=>Hm w0.inn gr sl b a1 e1 ((g2,61,([Value.bool false]++([Value.int .u64 0]++lPT ⟨0,0,false⟩)).toArray)::R) u1 v1_ hl hv w hw) (λu M hM=>?_)
  obtain ⟨x2,a2,e2,N2,p2,⟨rfl,rfl,hx,hy⟩,u2,v2_,rfl⟩:=hM
  rw [List.append_nil ((g2,61,([Value.bool false]++([Value.int .u64 0]++lPT ⟨0,0,false⟩)).toArray)::R)]
  have hrp:He (rdB []) (cAM ⟨true,0,x2⟩) ⟨true,0,x2⟩:=⟨rfl,(show (0:Nat)<18446744073709551616 by decide),hx,hy⟩
  have hln:(cAM ⟨true,0,x2⟩).length=11:=rfl
  refine sP (.agg (cAM ⟨true,0,x2⟩).toArray)<|sw 1 J (cAM ⟨true,0,x2⟩).toArray (Writes.row 61 (cAM ⟨true,0,x2⟩) 11 _ _ J kR kR kR hln kZ (Ma hrp))<|sG<|Sy.ret<|Sy.then_ret ?_
  exact Sy.retT1 (RB gr sl a2 e2 (R++[])) J (.inl (Sy.Res.cell (ty':=61) g2 1 (cAM ⟨true,0,x2⟩).toArray _ kZ J Jx J (by rw [List.size_toArray,hln]; kernel_rfl) rfl)) (λ_ h=>by rw [List.append_nil]; exact h.less ((List.Sublist.refl R).cons _ |>.cons_cons _)) ⟨_,a2,e2,[],p1t.bind (by rw [if_pos J]; exact p2.bind (After.ret _ _)),⟨(cAM ⟨true,0,x2⟩),rfl,hln,Ma hrp,hrp⟩,u2,v2_,rfl⟩
 refine sU<|Sy.skip<|sB<|sp J<|Sy.callT (λw hw=>Ht w0.inn gr sl b a1 e1 8 ((g2,61,([Value.bool false]++([Value.int .u64 0]++lPT ⟨0,0,false⟩)).toArray)::R) u1 v1_ dZ hl hv w hw) (λu M hM=>?_)
 obtain ⟨x2,a2,e2,N2,p2,⟨rfl,r2,rfl⟩,u2,v2_,rfl⟩:=hM
 rw [List.append_nil ((g2,61,([Value.bool false]++([Value.int .u64 0]++lPT ⟨0,0,false⟩)).toArray)::R)]
 have hrp:He (rdB []) (cAM ⟨false,x2,⟨0,0,false⟩⟩) ⟨false,x2,⟨0,0,false⟩⟩:=⟨rfl,r2,(show 0<Cu.K4 by decide),(show 0<Cu.K4 by decide)⟩
 have hln:(cAM ⟨false,x2,⟨0,0,false⟩⟩).length=11:=rfl
 refine sP (.agg (cAM ⟨false,x2,⟨0,0,false⟩⟩).toArray)<|sw 1 J (cAM ⟨false,x2,⟨0,0,false⟩⟩).toArray (Writes.row 61 (cAM ⟨false,x2,⟨0,0,false⟩⟩) 11 _ _ J kR kR kR hln kZ (Ma hrp))<|sG<|Sy.ret ?_
 exact Sy.retT1 (RB gr sl a2 e2 (R++[])) J (.inl (Sy.Res.cell (ty':=61) g2 1 (cAM ⟨false,x2,⟨0,0,false⟩⟩).toArray _ kZ J Jx J (by rw [List.size_toArray,hln]; kernel_rfl) rfl)) (λ_ h=>by rw [List.append_nil]; exact h.less ((List.Sublist.refl R).cons _ |>.cons_cons _)) ⟨_,a2,e2,[],p1t.bind (by rw [if_neg dZ]; exact p2.bind (After.ret _ _)),⟨(cAM ⟨false,x2,⟨0,0,false⟩⟩),rfl,hln,Ma hrp,hrp⟩,u2,v2_,rfl⟩
theorem Ov {α:Type} (f:Int→Ps α):AJ (DN 1 4) f=AJ CY λk=>AJ (BJ (okK k)) λ_=>f k:=by
 funext l
 cases h:Bj 1 l with
 | none =>
  have h1:DN 1 4 l=none:=by unfold DN; exact bind_none h
  have h2:CY l=none:=by unfold CY; exact bind_none h
  rw [bind_none h1,bind_none h2]
 | some u =>
  obtain ⟨n,r⟩:=u
  have h2:CY l=some ((n:Int),r):=by unfold CY; rw [bind_some h]; rfl
  rw [bind_some h2]
  by_cases hn:1≤n∧n≤4
  ·have h1:DN 1 4 l=some ((n:Int),r):=by
    unfold DN
    rw [bind_some h,decide_eq_true hn]
    rfl
   have hk:okK (n:Int)=true:=by
    unfold okK
    rw [decide_eq_true (show (1:Int)≤n by omega),decide_eq_true (show (n:Int)≤4 by omega)]; rfl
   rw [bind_some h1,hk]
   rfl
  ·have h1:DN 1 4 l=none:=by
    unfold DN
    rw [bind_some h,decide_eq_false hn]
    rfl
   have hk:okK (n:Int)=false:=LN om
   rw [bind_none h1,hk]
   rfl
theorem KF (w0:Base) (gr:Nat) (sl:Value) (b:Byt) (at_ e:Nat) (R:AA) (hat:at_≤b.length) (he:e≤200) (hl:b.length≤70368744177664) (hv:BytR (rdW w0.world) sl b) (w:World) (hw:St w0 w (RB gr sl at_ e R)) :
  AL 73 #[ptr gr] w (AQ w0 (Rfd GM (J6 58 Cf) gr sl b R at_ e)):=by
 have L0:([]:List Value).length=0:=rfl
 refine Sy.enterT (args:=[ptr gr]) hw Tryz.func73 J kL<|sC<|sM 63 ((([]:List Value))++([Value.int .i64 0]++(([Value.bool false]++(Z32++lPT ⟨0,0,false⟩))++(([Value.bool false]++([Value.int .u64 0]++lPT ⟨0,0,false⟩))++([Value.slice none 0 0]++([Value.slice none 0 0]++([Value.slice none 0 0]++([Value.slice none 0 0]++(([]:List Value)))))))))).toArray (λg2=>?_)
 refine Sy.movT (pre:=[(gr,166,rrC sl at_ e)]) (T:=R)<|sA<|sM 63 ((([]:List Value))++([Value.int .i64 0]++(([Value.bool false]++(Z32++lPT ⟨0,0,false⟩))++(([Value.bool false]++([Value.int .u64 0]++lPT ⟨0,0,false⟩))++([Value.slice none 0 0]++([Value.slice none 0 0]++([Value.slice none 0 0]++([Value.slice none 0 0]++(([]:List Value)))))))))).toArray (λg3=>?_)
 refine Sy.movT (pre:=[(gr,166,rrC sl at_ e),(g2,63,((([]:List Value))++([Value.int .i64 0]++(([Value.bool false]++(Z32++lPT ⟨0,0,false⟩))++(([Value.bool false]++([Value.int .u64 0]++lPT ⟨0,0,false⟩))++([Value.slice none 0 0]++([Value.slice none 0 0]++([Value.slice none 0 0]++([Value.slice none 0 0]++(([]:List Value)))))))))).toArray)]) (T:=R)<|sA<|sp J<|Sy.callT (λw hw=>DY 1 4 w0.inn gr sl b at_ e ((g2,63,((([]:List Value))++([Value.int .i64 0]++(([Value.bool false]++(Z32++lPT ⟨0,0,false⟩))++(([Value.bool false]++([Value.int .u64 0]++lPT ⟨0,0,false⟩))++([Value.slice none 0 0]++([Value.slice none 0 0]++([Value.slice none 0 0]++([Value.slice none 0 0]++(([]:List Value)))))))))).toArray)::(g3,63,((([]:List Value))++([Value.int .i64 0]++(([Value.bool false]++(Z32++lPT ⟨0,0,false⟩))++(([Value.bool false]++([Value.int .u64 0]++lPT ⟨0,0,false⟩))++([Value.slice none 0 0]++([Value.slice none 0 0]++([Value.slice none 0 0]++([Value.slice none 0 0]++(([]:List Value)))))))))).toArray)::R) hat he hl hv w hw) (λu M hM=>?_)
 obtain ⟨x1,a1,e1,N1,p1,⟨rfl,rfl⟩,u1,v1_,rfl⟩:=hM
 rw [List.append_nil ((g2,63,((([]:List Value))++([Value.int .i64 0]++(([Value.bool false]++(Z32++lPT ⟨0,0,false⟩))++(([Value.bool false]++([Value.int .u64 0]++lPT ⟨0,0,false⟩))++([Value.slice none 0 0]++([Value.slice none 0 0]++([Value.slice none 0 0]++([Value.slice none 0 0]++(([]:List Value)))))))))).toArray)::(g3,63,((([]:List Value))++([Value.int .i64 0]++(([Value.bool false]++(Z32++lPT ⟨0,0,false⟩))++(([Value.bool false]++([Value.int .u64 0]++lPT ⟨0,0,false⟩))++([Value.slice none 0 0]++([Value.slice none 0 0]++([Value.slice none 0 0]++([Value.slice none 0 0]++(([]:List Value)))))))))).toArray)::R)]
 refine sP (pT g3 0)<|sw 2 J ((([]:List Value)++([Value.int .i64 x1]))++(([Value.bool false]++(Z32++lPT ⟨0,0,false⟩))++(([Value.bool false]++([Value.int .u64 0]++lPT ⟨0,0,false⟩))++([Value.slice none 0 0]++([Value.slice none 0 0]++([Value.slice none 0 0]++([Value.slice none 0 0]++(([]:List Value))))))))).toArray (by rw [show ((([]:List Value)++([Value.int .i64 x1]))++(([Value.bool false]++(Z32++lPT ⟨0,0,false⟩))++(([Value.bool false]++([Value.int .u64 0]++lPT ⟨0,0,false⟩))++([Value.slice none 0 0]++([Value.slice none 0 0]++([Value.slice none 0 0]++([Value.slice none 0 0]++(([]:List Value)))))))))=(([]:List Value))++([Value.int .i64 x1]++(([Value.bool false]++(Z32++lPT ⟨0,0,false⟩))++(([Value.bool false]++([Value.int .u64 0]++lPT ⟨0,0,false⟩))++([Value.slice none 0 0]++([Value.slice none 0 0]++([Value.slice none 0 0]++([Value.slice none 0 0]++(([]:List Value))))))))) from List.append_assoc ..]; exact Writes.one 0 3 (.int .i64 x1) _ _ J kR kR kR J J (by rw [List.size_toArray,List.length_append,L0]; exact Nat.lt_add_of_pos_right (Nat.succ_pos _)) (Aq L0)) ?_
 have L1:(([]:List Value)++([Value.int .i64 x1])).length=1:=by rw [List.length_append,L0]; rfl
 refine sA<|sp J<|Sy.callT (λw hw=>Oi w0.inn gr sl b a1 e1 ((g2,63,((([]:List Value))++([Value.int .i64 0]++(([Value.bool false]++(Z32++lPT ⟨0,0,false⟩))++(([Value.bool false]++([Value.int .u64 0]++lPT ⟨0,0,false⟩))++([Value.slice none 0 0]++([Value.slice none 0 0]++([Value.slice none 0 0]++([Value.slice none 0 0]++(([]:List Value)))))))))).toArray)::(g3,63,((([]:List Value)++([Value.int .i64 x1]))++(([Value.bool false]++(Z32++lPT ⟨0,0,false⟩))++(([Value.bool false]++([Value.int .u64 0]++lPT ⟨0,0,false⟩))++([Value.slice none 0 0]++([Value.slice none 0 0]++([Value.slice none 0 0]++([Value.slice none 0 0]++(([]:List Value))))))))).toArray)::R) u1 v1_ hl hv w hw) (λu M hM=>?_)
 obtain ⟨x2,a2,e2,N2,p2,⟨cs2,rfl,n2,o2,rfl,b2⟩,u2,v2_,rfl⟩:=hM
 refine Sy.permS (M:=RB gr sl a2 e2 ((g2,63,((([]:List Value))++([Value.int .i64 0]++(([Value.bool false]++(Z32++lPT ⟨0,0,false⟩))++(([Value.bool false]++([Value.int .u64 0]++lPT ⟨0,0,false⟩))++([Value.slice none 0 0]++([Value.slice none 0 0]++([Value.slice none 0 0]++([Value.slice none 0 0]++(([]:List Value)))))))))).toArray)::(g3,63,((([]:List Value)++([Value.int .i64 x1]))++(([Value.bool false]++(Z32++lPT ⟨0,0,false⟩))++(([Value.bool false]++([Value.int .u64 0]++lPT ⟨0,0,false⟩))++([Value.slice none 0 0]++([Value.slice none 0 0]++([Value.slice none 0 0]++([Value.slice none 0 0]++(([]:List Value))))))))).toArray)::(R++N2))) (List.Perm.refl _)<|sP (pT g3 1)<|sw 2 J ((([]:List Value)++([Value.int .i64 x1])++(cTG x2))++(([Value.bool false]++([Value.int .u64 0]++lPT ⟨0,0,false⟩))++([Value.slice none 0 0]++([Value.slice none 0 0]++([Value.slice none 0 0]++([Value.slice none 0 0]++(([]:List Value)))))))).toArray (by rw [show ((([]:List Value)++([Value.int .i64 x1])++(cTG x2))++(([Value.bool false]++([Value.int .u64 0]++lPT ⟨0,0,false⟩))++([Value.slice none 0 0]++([Value.slice none 0 0]++([Value.slice none 0 0]++([Value.slice none 0 0]++(([]:List Value))))))))=(([]:List Value)++([Value.int .i64 x1]))++(cTG x2++(([Value.bool false]++([Value.int .u64 0]++lPT ⟨0,0,false⟩))++([Value.slice none 0 0]++([Value.slice none 0 0]++([Value.slice none 0 0]++([Value.slice none 0 0]++(([]:List Value)))))))) from List.append_assoc ..]; exact wM 59 (([]:List Value)++([Value.int .i64 x1])) ([Value.bool false]++(Z32++lPT ⟨0,0,false⟩)) (cTG x2) (([Value.bool false]++([Value.int .u64 0]++lPT ⟨0,0,false⟩))++([Value.slice none 0 0]++([Value.slice none 0 0]++([Value.slice none 0 0]++([Value.slice none 0 0]++(([]:List Value))))))) 42 1 _ _ J kR kR kR L1 J n2 o2) ?_
 have L2:(([]:List Value)++([Value.int .i64 x1])++(cTG x2)).length=43:=by rw [List.length_append,L1,n2]
 refine sA<|sp J<|Sy.callT (λw hw=>Gn w0.inn gr sl b a2 e2 ((g2,63,((([]:List Value))++([Value.int .i64 0]++(([Value.bool false]++(Z32++lPT ⟨0,0,false⟩))++(([Value.bool false]++([Value.int .u64 0]++lPT ⟨0,0,false⟩))++([Value.slice none 0 0]++([Value.slice none 0 0]++([Value.slice none 0 0]++([Value.slice none 0 0]++(([]:List Value)))))))))).toArray)::(g3,63,((([]:List Value)++([Value.int .i64 x1])++(cTG x2))++(([Value.bool false]++([Value.int .u64 0]++lPT ⟨0,0,false⟩))++([Value.slice none 0 0]++([Value.slice none 0 0]++([Value.slice none 0 0]++([Value.slice none 0 0]++(([]:List Value)))))))).toArray)::(R++N2)) u2 v2_ hl hv w hw) (λu M hM=>?_)
 obtain ⟨x3,a3,e3,N3,p3,⟨cs3,rfl,n3,o3,rfl,b3⟩,u3,v3_,rfl⟩:=hM
 refine Sy.permS (M:=RB gr sl a3 e3 ((g2,63,((([]:List Value))++([Value.int .i64 0]++(([Value.bool false]++(Z32++lPT ⟨0,0,false⟩))++(([Value.bool false]++([Value.int .u64 0]++lPT ⟨0,0,false⟩))++([Value.slice none 0 0]++([Value.slice none 0 0]++([Value.slice none 0 0]++([Value.slice none 0 0]++(([]:List Value)))))))))).toArray)::(g3,63,((([]:List Value)++([Value.int .i64 x1])++(cTG x2))++(([Value.bool false]++([Value.int .u64 0]++lPT ⟨0,0,false⟩))++([Value.slice none 0 0]++([Value.slice none 0 0]++([Value.slice none 0 0]++([Value.slice none 0 0]++(([]:List Value)))))))).toArray)::(R++N2++N3))) (List.Perm.refl _)<|sP (pT g3 43)<|sw 2 J ((([]:List Value)++([Value.int .i64 x1])++(cTG x2)++(cAM x3))++([Value.slice none 0 0]++([Value.slice none 0 0]++([Value.slice none 0 0]++([Value.slice none 0 0]++(([]:List Value))))))).toArray (by rw [show ((([]:List Value)++([Value.int .i64 x1])++(cTG x2)++(cAM x3))++([Value.slice none 0 0]++([Value.slice none 0 0]++([Value.slice none 0 0]++([Value.slice none 0 0]++(([]:List Value)))))))=(([]:List Value)++([Value.int .i64 x1])++(cTG x2))++(cAM x3++([Value.slice none 0 0]++([Value.slice none 0 0]++([Value.slice none 0 0]++([Value.slice none 0 0]++(([]:List Value))))))) from List.append_assoc ..]; exact wM 61 (([]:List Value)++([Value.int .i64 x1])++(cTG x2)) ([Value.bool false]++([Value.int .u64 0]++lPT ⟨0,0,false⟩)) (cAM x3) ([Value.slice none 0 0]++([Value.slice none 0 0]++([Value.slice none 0 0]++([Value.slice none 0 0]++(([]:List Value)))))) 11 43 _ _ J kR kR kR L2 J n3 o3) ?_
 have L3:(([]:List Value)++([Value.int .i64 x1])++(cTG x2)++(cAM x3)).length=54:=by rw [List.length_append,L2,n3]
 refine sA<|sp J<|Sy.callT (λw hw=>CV 6000 dZ w0.inn gr sl b a3 e3 ((g2,63,((([]:List Value))++([Value.int .i64 0]++(([Value.bool false]++(Z32++lPT ⟨0,0,false⟩))++(([Value.bool false]++([Value.int .u64 0]++lPT ⟨0,0,false⟩))++([Value.slice none 0 0]++([Value.slice none 0 0]++([Value.slice none 0 0]++([Value.slice none 0 0]++(([]:List Value)))))))))).toArray)::(g3,63,((([]:List Value)++([Value.int .i64 x1])++(cTG x2)++(cAM x3))++([Value.slice none 0 0]++([Value.slice none 0 0]++([Value.slice none 0 0]++([Value.slice none 0 0]++(([]:List Value))))))).toArray)::(R++N2++N3)) u3 v3_ hl hv w hw) (λv4 M hM=>?_)
 obtain ⟨x4,a4,e4,N4,p4,r4,u4,v4_,rfl⟩:=hM
 refine Sy.permS (M:=RB gr sl a4 e4 ((g2,63,((([]:List Value))++([Value.int .i64 0]++(([Value.bool false]++(Z32++lPT ⟨0,0,false⟩))++(([Value.bool false]++([Value.int .u64 0]++lPT ⟨0,0,false⟩))++([Value.slice none 0 0]++([Value.slice none 0 0]++([Value.slice none 0 0]++([Value.slice none 0 0]++(([]:List Value)))))))))).toArray)::(g3,63,((([]:List Value)++([Value.int .i64 x1])++(cTG x2)++(cAM x3))++([Value.slice none 0 0]++([Value.slice none 0 0]++([Value.slice none 0 0]++([Value.slice none 0 0]++(([]:List Value))))))).toArray)::(R++N2++N3++N4))) (List.Perm.refl _) ?_
 have hc4:=r4.byt.cells
 refine sP (pT g3 54)<|sw 2 J ((([]:List Value)++([Value.int .i64 x1])++(cTG x2)++(cAM x3)++([v4]))++([Value.slice none 0 0]++([Value.slice none 0 0]++([Value.slice none 0 0]++(([]:List Value)))))).toArray (by rw [show ((([]:List Value)++([Value.int .i64 x1])++(cTG x2)++(cAM x3)++([v4]))++([Value.slice none 0 0]++([Value.slice none 0 0]++([Value.slice none 0 0]++(([]:List Value))))))=(([]:List Value)++([Value.int .i64 x1])++(cTG x2)++(cAM x3))++([v4]++([Value.slice none 0 0]++([Value.slice none 0 0]++([Value.slice none 0 0]++(([]:List Value)))))) from List.append_assoc ..]; exact Writes.one 54 27 v4 _ _ J kR kR kR hc4.1 hc4.2 (by rw [List.size_toArray,List.length_append,L3]; exact Nat.lt_add_of_pos_right (Nat.succ_pos _)) (Aq L3)) ?_
 have L4:(([]:List Value)++([Value.int .i64 x1])++(cTG x2)++(cAM x3)++([v4])).length=55:=by rw [List.length_append,L3]; rfl
 refine sA<|sp J<|Sy.callT (λw hw=>CV 6000 dZ w0.inn gr sl b a4 e4 ((g2,63,((([]:List Value))++([Value.int .i64 0]++(([Value.bool false]++(Z32++lPT ⟨0,0,false⟩))++(([Value.bool false]++([Value.int .u64 0]++lPT ⟨0,0,false⟩))++([Value.slice none 0 0]++([Value.slice none 0 0]++([Value.slice none 0 0]++([Value.slice none 0 0]++(([]:List Value)))))))))).toArray)::(g3,63,((([]:List Value)++([Value.int .i64 x1])++(cTG x2)++(cAM x3)++([v4]))++([Value.slice none 0 0]++([Value.slice none 0 0]++([Value.slice none 0 0]++(([]:List Value)))))).toArray)::(R++N2++N3++N4)) u4 v4_ hl hv w hw) (λv5 M hM=>?_)
 obtain ⟨x5,a5,e5,N5,p5,r5,u5,v5_,rfl⟩:=hM
 refine Sy.permS (M:=RB gr sl a5 e5 ((g2,63,((([]:List Value))++([Value.int .i64 0]++(([Value.bool false]++(Z32++lPT ⟨0,0,false⟩))++(([Value.bool false]++([Value.int .u64 0]++lPT ⟨0,0,false⟩))++([Value.slice none 0 0]++([Value.slice none 0 0]++([Value.slice none 0 0]++([Value.slice none 0 0]++(([]:List Value)))))))))).toArray)::(g3,63,((([]:List Value)++([Value.int .i64 x1])++(cTG x2)++(cAM x3)++([v4]))++([Value.slice none 0 0]++([Value.slice none 0 0]++([Value.slice none 0 0]++(([]:List Value)))))).toArray)::(R++N2++N3++N4++N5))) (List.Perm.refl _) ?_
 have hc5:=r5.byt.cells
 refine sP (pT g3 55)<|sw 2 J ((([]:List Value)++([Value.int .i64 x1])++(cTG x2)++(cAM x3)++([v4])++([v5]))++([Value.slice none 0 0]++([Value.slice none 0 0]++(([]:List Value))))).toArray (by rw [show ((([]:List Value)++([Value.int .i64 x1])++(cTG x2)++(cAM x3)++([v4])++([v5]))++([Value.slice none 0 0]++([Value.slice none 0 0]++(([]:List Value)))))=(([]:List Value)++([Value.int .i64 x1])++(cTG x2)++(cAM x3)++([v4]))++([v5]++([Value.slice none 0 0]++([Value.slice none 0 0]++(([]:List Value))))) from List.append_assoc ..]; exact Writes.one 55 27 v5 _ _ J kR kR kR hc5.1 hc5.2 (by rw [List.size_toArray,List.length_append,L4]; exact Nat.lt_add_of_pos_right (Nat.succ_pos _)) (Aq L4)) ?_
 have L5:(([]:List Value)++([Value.int .i64 x1])++(cTG x2)++(cAM x3)++([v4])++([v5])).length=56:=by rw [List.length_append,L4]; rfl
 refine sA<|sp J<|Sy.callT (λw hw=>CV 128 dZ w0.inn gr sl b a5 e5 ((g2,63,((([]:List Value))++([Value.int .i64 0]++(([Value.bool false]++(Z32++lPT ⟨0,0,false⟩))++(([Value.bool false]++([Value.int .u64 0]++lPT ⟨0,0,false⟩))++([Value.slice none 0 0]++([Value.slice none 0 0]++([Value.slice none 0 0]++([Value.slice none 0 0]++(([]:List Value)))))))))).toArray)::(g3,63,((([]:List Value)++([Value.int .i64 x1])++(cTG x2)++(cAM x3)++([v4])++([v5]))++([Value.slice none 0 0]++([Value.slice none 0 0]++(([]:List Value))))).toArray)::(R++N2++N3++N4++N5)) u5 v5_ hl hv w hw) (λv6 M hM=>?_)
 obtain ⟨x6,a6,e6,N6,p6,r6,u6,v6_,rfl⟩:=hM
 refine Sy.permS (M:=RB gr sl a6 e6 ((g2,63,((([]:List Value))++([Value.int .i64 0]++(([Value.bool false]++(Z32++lPT ⟨0,0,false⟩))++(([Value.bool false]++([Value.int .u64 0]++lPT ⟨0,0,false⟩))++([Value.slice none 0 0]++([Value.slice none 0 0]++([Value.slice none 0 0]++([Value.slice none 0 0]++(([]:List Value)))))))))).toArray)::(g3,63,((([]:List Value)++([Value.int .i64 x1])++(cTG x2)++(cAM x3)++([v4])++([v5]))++([Value.slice none 0 0]++([Value.slice none 0 0]++(([]:List Value))))).toArray)::(R++N2++N3++N4++N5++N6))) (List.Perm.refl _) ?_
 have hc6:=r6.byt.cells
 refine sP (pT g3 56)<|sw 2 J ((([]:List Value)++([Value.int .i64 x1])++(cTG x2)++(cAM x3)++([v4])++([v5])++([v6]))++([Value.slice none 0 0]++(([]:List Value)))).toArray (by rw [show ((([]:List Value)++([Value.int .i64 x1])++(cTG x2)++(cAM x3)++([v4])++([v5])++([v6]))++([Value.slice none 0 0]++(([]:List Value))))=(([]:List Value)++([Value.int .i64 x1])++(cTG x2)++(cAM x3)++([v4])++([v5]))++([v6]++([Value.slice none 0 0]++(([]:List Value)))) from List.append_assoc ..]; exact Writes.one 56 27 v6 _ _ J kR kR kR hc6.1 hc6.2 (by rw [List.size_toArray,List.length_append,L5]; exact Nat.lt_add_of_pos_right (Nat.succ_pos _)) (Aq L5)) ?_
 have L6:(([]:List Value)++([Value.int .i64 x1])++(cTG x2)++(cAM x3)++([v4])++([v5])++([v6])).length=57:=by rw [List.length_append,L5]; rfl
 refine sA<|sp J<|Sy.callT (λw hw=>CV 256 dZ w0.inn gr sl b a6 e6 ((g2,63,((([]:List Value))++([Value.int .i64 0]++(([Value.bool false]++(Z32++lPT ⟨0,0,false⟩))++(([Value.bool false]++([Value.int .u64 0]++lPT ⟨0,0,false⟩))++([Value.slice none 0 0]++([Value.slice none 0 0]++([Value.slice none 0 0]++([Value.slice none 0 0]++(([]:List Value)))))))))).toArray)::(g3,63,((([]:List Value)++([Value.int .i64 x1])++(cTG x2)++(cAM x3)++([v4])++([v5])++([v6]))++([Value.slice none 0 0]++(([]:List Value)))).toArray)::(R++N2++N3++N4++N5++N6)) u6 v6_ hl hv w hw) (λv7 M hM=>?_)
 obtain ⟨x7,a7,e7,N7,p7,r7,u7,v7_,rfl⟩:=hM
 refine Sy.permS (M:=RB gr sl a7 e7 ((g2,63,((([]:List Value))++([Value.int .i64 0]++(([Value.bool false]++(Z32++lPT ⟨0,0,false⟩))++(([Value.bool false]++([Value.int .u64 0]++lPT ⟨0,0,false⟩))++([Value.slice none 0 0]++([Value.slice none 0 0]++([Value.slice none 0 0]++([Value.slice none 0 0]++(([]:List Value)))))))))).toArray)::(g3,63,((([]:List Value)++([Value.int .i64 x1])++(cTG x2)++(cAM x3)++([v4])++([v5])++([v6]))++([Value.slice none 0 0]++(([]:List Value)))).toArray)::(R++N2++N3++N4++N5++N6++N7))) (List.Perm.refl _) ?_
 have hc7:=r7.byt.cells
 refine sP (pT g3 57)<|sw 2 J ((([]:List Value)++([Value.int .i64 x1])++(cTG x2)++(cAM x3)++([v4])++([v5])++([v6])++([v7]))++([]:List Value)).toArray (by rw [show ((([]:List Value)++([Value.int .i64 x1])++(cTG x2)++(cAM x3)++([v4])++([v5])++([v6])++([v7]))++([]:List Value))=(([]:List Value)++([Value.int .i64 x1])++(cTG x2)++(cAM x3)++([v4])++([v5])++([v6]))++([v7]++(([]:List Value))) from List.append_assoc ..]; exact Writes.one 57 27 v7 _ _ J kR kR kR hc7.1 hc7.2 (by rw [List.size_toArray,List.length_append,L6]; exact Nat.lt_add_of_pos_right (Nat.succ_pos _)) (Aq L6)) ?_
 have L7:(([]:List Value)++([Value.int .i64 x1])++(cTG x2)++(cAM x3)++([v4])++([v5])++([v6])++([v7])).length=58:=by rw [List.length_append,L6]; rfl
 have hAf:After GM ⟨b.drop at_,e⟩ ⟨x1,x2,x3,x4,x5,x6,x7⟩ ⟨b.drop a7,e7⟩:=by
  unfold GM
  rw [← Ov]
  exact p1.bind (p2.bind (p3.bind (p4.bind (p5.bind (p6.bind (p7.bind (After.ret _ _)))))))
 have hrp:Cf (rdB (N2++(N3++(N4++(N5++(N6++N7)))))) ((([]:List Value)++([Value.int .i64 x1])++(cTG x2)++(cAM x3)++([v4])++([v5])++([v6])++([v7]))++([]:List Value)) ⟨x1,x2,x3,x4,x5,x6,x7⟩:=⟨v4,v5,v6,v7,by simp only [cOU,List.append_assoc,List.append_nil,List.nil_append],b2,b3,r4.byt.le (Ac λb h=>by simp [h]),r5.byt.le (Ac λb h=>by simp [h]),r6.byt.le (Ac λb h=>by simp [h]),r7.byt.le (Ac λb h=>by simp [h])⟩
 have hln:((([]:List Value)++([Value.int .i64 x1])++(cTG x2)++(cAM x3)++([v4])++([v5])++([v6])++([v7]))++([]:List Value)).length=58:=by rw [List.length_append,L7]; rfl
 have hon:∀ u∈((([]:List Value)++([Value.int .i64 x1])++(cTG x2)++(cAM x3)++([v4])++([v5])++([v6])++([v7]))++([]:List Value)),u.oneCell'=true:=UP hrp
 refine sA<|sS (.agg ((([]:List Value)++([Value.int .i64 x1])++(cTG x2)++(cAM x3)++([v4])++([v5])++([v6])++([v7]))++([]:List Value)).toArray) (Quiet.mid 2 g3 0 58 63 63 ((([]:List Value)++([Value.int .i64 x1])++(cTG x2)++(cAM x3)++([v4])++([v5])++([v6])++([v7]))++([]:List Value)) ((([]:List Value)++([Value.int .i64 x1])++(cTG x2)++(cAM x3)++([v4])++([v5])++([v6])++([v7]))++([]:List Value)) _ _ J kR J G' J kR (by rw [List.drop_zero,List.take_of_length_le om]) om)<|sw 1 J ((([]:List Value)++([Value.int .i64 x1])++(cTG x2)++(cAM x3)++([v4])++([v5])++([v6])++([v7]))++([]:List Value)).toArray (Writes.row 63 ((([]:List Value)++([Value.int .i64 x1])++(cTG x2)++(cAM x3)++([v4])++([v5])++([v6])++([v7]))++([]:List Value)) 58 _ _ J kR kR kR hln kZ hon)<|sG<|Sy.ret ?_
 exact Sy.retT1 (RB gr sl a7 e7 (R++(N2++(N3++(N4++(N5++(N6++N7))))))) J (.inl (Sy.Res.cell (ty':=63) g2 1 ((([]:List Value)++([Value.int .i64 x1])++(cTG x2)++(cAM x3)++([v4])++([v5])++([v6])++([v7]))++([]:List Value)).toArray _ kZ J G' J (by rw [List.size_toArray,hln]; kernel_rfl) rfl)) (λ_ h=>by
  have e:R++N2++N3++N4++N5++N6++N7=R++(N2++(N3++(N4++(N5++(N6++N7))))):=by simp only [List.append_assoc]
  rw [← e]
  exact h.less ((((List.Sublist.refl _).cons _).cons _).cons_cons _)) ⟨_,a7,e7,N2++(N3++(N4++(N5++(N6++N7)))),hAf,⟨((([]:List Value)++([Value.int .i64 x1])++(cTG x2)++(cAM x3)++([v4])++([v5])++([v6])++([v7]))++([]:List Value)),rfl,hln,hon,hrp⟩,u7,v7_,rfl⟩
structure RLsN (α:Type) where
 at_:Nat
 e:Nat
 xs:List α
 r:Slc
 N:AA
theorem G3 (w:World) (F:AK) (o:Oper) (x:Operand) (n:Nat) (hn:n<4294967296) (ho:o.op=.convert 140 22 x) (hx:evF F x=.int .u32 (n:Int)):(execOp (evF F) o).run Tryz.prog w=.ok (.value (.int .u64 (n:Int))) w:=by
 have h:(convert 140 22 (.int .u32 (n:Int))).run Tryz.prog w=.ok (.int .u64 (n:Int)) w:=by
  go_simp
  unfold IntKind.wrap
  simp [IntKind.signed,IntKind.bits]
  omega
 unfold execOp
 simp only [ho,hx,Sem.run_bind,h,Result.andThen_ok,Sem.run_pure]
theorem G2 (w:World) (F:AK) (o:Oper) (x:Operand) (n:Nat) (hn:n<4294967296) (ho:o.op=.convert 22 140 x) (hx:evF F x=.int .u64 (n:Int)):(execOp (evF F) o).run Tryz.prog w=.ok (.value (.int .u32 (n:Int))) w:=by
 have h:(convert 22 140 (.int .u64 (n:Int))).run Tryz.prog w=.ok (.int .u32 (n:Int)) w:=by
  go_simp
  unfold IntKind.wrap
  simp [IntKind.signed,IntKind.bits]
  omega
 unfold execOp
 simp only [ho,hx,Sem.run_bind,h,Result.andThen_ok,Sem.run_pure]
theorem OX (w0:Base) (gw:Nat) (s:Slc) (R:AA) (b:Byt) (n:Nat) (hn:n<4294967296) (hb:BS s b) (hl:b.length≤70368744177664) (w:World) (hw:St w0 w (WS gw s R)) :
  AL 202 #[ptr gw,.int .u32 (n:Int)] w (AQ w0 (Wr gw R (b++nb 4 n))):=by
 refine Sy.enterT (args:=[ptr gw,.int .u32 (n:Int)]) hw Tryz.func202 J kL<|Sy.region<|sp J<|sp J<|sS (.int .u64 (n:Int)) (Quiet.pure (λw=>G3 w _ _ _ n hn J J))<|Sy.callT (λw hw=>DU _ gw s R b n 4 om dZ hb hl w hw) (λv M hM=>?_)
 obtain ⟨s1,hs1,rfl⟩:=hM
 refine Sy.nil ?_
 exact Sy.retT0 J (WS gw s1 R) (λ_ h=>h) (λ_=>⟨s1,hs1,rfl⟩)
theorem K3 (w0:Base) (gc gw gx f:Nat) (bad:Bool) (s:Slc) (R:AA) (b:Byt) (n:Nat) (hn:n<4294967296) (hc:rdC w0 R gx f (.int .u32 (n:Int))) (hb:BS s b) (hl:b.length+4≤70368744177000) (w:World) (hw:St w0 w (CWS gc gw bad s R)) :
  AL 166 #[ptr gc,pT gx f] w (AQ w0 (WrC gc gw R true (nb 4 n) 4 bad b)):=by
 have item:∀ w,St w0.inn w (CWS gc gw bad s R)→AL 201 #[ptr gc,pT gx f,.func (.func 202) #[] #[],.func (.func 203) #[] #[]] w (AQ w0.inn (WrC gc gw R true (nb 4 n) 4 bad b)):=λw hw=>by
  refine Sy.enterT (args:=[ptr gc,pT gx f,.func (.func 202) #[] #[],.func (.func 203) #[] #[]]) hw Tryz.func201 J kL<|sC<|sp J<|sS (.bool false) (qg (λw hw=>CX w0.inn gc _ _ (List.mem_cons_self ..) w hw))<|sG<|sU<|Sy.regionD (λj=>j == 8) kR<|sa 0 J J<|sa 1 J J<|sa 2 J J<|sb 3 J (pT gc 0)<|sD 4 J (ptr gw) (qc 0 0 J J D0)<|sa 5 J J<|sa 6 J J<|sD 7 J (.int .u32 (n:Int)) (AH (R:=R) hc Ar J Ff)<|Sy.soleD 8 J (λQ2 hq2=>?_)
  refine Sy.callT (λw hw=>OX w0.inn gw s ((gc,134,#[ptr gw,.pointer none,.bool bad])::R) b n hn hb om w (hw.perm permCW)) (λu M hM=>?_)
  obtain ⟨s1,hs1,rfl⟩:=hM
  refine Sy.permS permCW.symm<|hq2 _ _<|sE ?_
  exact Sy.retT0 J (CWS gc gw bad s1 R) (λ_ h=>h) (λ_=>⟨s1,bad,b++nb 4 n,Wrote.raw _ bad b (by rw [Ch]; exact Nat.le_refl _),hs1,rfl⟩)
 refine Sy.enterT (args:=[ptr gc,pT gx f]) hw Tryz.func166 J kL<|Sy.region<|sp J<|sp J<|Sy.callT (λw hw=>item w hw) (λu M hM=>?_)
 obtain ⟨s1,bad1,b1,h1,h2,rfl⟩:=hM
 refine Sy.nil ?_
 exact Sy.retT0 J (CWS gc gw bad1 s1 R) (λ_ h=>h) (λ_=>⟨s1,bad1,b1,h1,h2,rfl⟩)
def Sd (_:Rdr) (cs:List Value) (n:Nat):Prop:=cs=[.int .u32 (n:Int)]∧n<4294967296
theorem NJ (w0:Base) (gr:Nat) (sl:Value) (s:RS) (R S:AA) (hS:∀ b∈S,b∈R) (he0:s.e≤200) (hv:BytR (rdC w0 S) sl s.rest) (w:World) (hw:St w0 w (RQ gr sl s.e R)) :
  AL 203 #[ptr gr] w (AQ w0 (Rdd (Bj 4) (λx v=>v=.int .u32 (x:Int)∧x<4294967296) w0 gr R S s)):=by
 obtain ⟨f,hf⟩:=xE (fxN s.rest 4)
 obtain ⟨q1,q2,q3⟩:=Do s.rest 4 dZ
 have hy:=@H7 s.rest 4
 have hno:=@Mp s.rest 4
 have hlt:f.1<4294967296:=by
  rw [hf]
  unfold fxN
  split
  ·decide
  ·have h:=Cn (s.rest.take 4)
   have h2:256 ^ (s.rest.take 4).length≤256 ^ 4:=Nat.pow_le_pow_right dZ (by rw [List.length_take]; omega)
   exact Nat.lt_of_lt_of_le h h2
 rw [← hf] at q1 q2 q3 hy hno
 refine Sy.enterT (args:=[ptr gr]) hw Tryz.func203 J kL<|sC<|sP (.int .u32 0)<|sA<|sp J<|sp J<|sp J<|sP (pT gr 0)<|sS sl (qc 0 0 J J Ay)<|sS (t3V f) (qg (λw' hw=>by rw [hf]; exact Dc w' _ _ 4 dZ dZ (hv.le (Aa (w0:=w0.inn) hw (λ_ h=>List.mem_cons_of_mem _ (hS _ h))))))<|sp J<|sp J<|sp J<|Sy.callT (λw hw=>B2 (Bj 4) w0.inn gr sl s R S hS f.1 f.2.1 f.2.2 he0 q3 om q1 (λh=>⟨(hy h).1,(hy h).2.1⟩) hno hv w hw) (λv M hM=>?_)
 obtain ⟨x,s',sl',hA,⟨rfl,hx⟩,h2,h3,h4,rfl⟩:=hM
 refine sS (.int .u32 (x:Int)) (Quiet.pure (λw=>G2 w _ _ _ x om J J))<|sp J<|sG<|Sy.ret ?_
 exact Sy.retT1 (RQ gr sl' s'.e R) rfl (.inl (show _=_ by kernel_rfl)) (λ_ h=>h) ⟨x,s',sl',hA,⟨rfl,by omega⟩,h2,h3,h4,rfl⟩
theorem K5:B4 166 1 [.int .u32 0] Sd (Bj 4):=λw0 gc gr gx f tx A Z sl s R S hS hA he hl hv w hw=>by
 have item:∀ w,St w0.inn w (CRS gc gr gx tx (A++([Value.int .u32 0]++Z)) sl s.e R)→AL 201 #[ptr gc,pT gx f,.func (.func 202) #[] #[],.func (.func 203) #[] #[]] w (AQ w0.inn (RdT 1 Sd (Bj 4) w0.inn gc gr gx tx A Z s R S)):=λw hw=>by
  refine Sy.enterT (args:=[ptr gc,pT gx f,.func (.func 202) #[] #[],.func (.func 203) #[] #[]]) hw Tryz.func201 J kL<|sC<|sp J<|sS (.bool true) (qg (λw hw=>CL w0.inn gc gr _ _ (List.mem_cons_self ..) w hw))<|sG<|sT<|Sy.region<|sp J<|sp J<|sp J<|sp J<|sP (pT gc 1)<|sS (ptr gr) (qc 0 1 J J BD)<|Sy.callT (λw hw=>NJ w0.inn gr sl s ((gc,134,#[.pointer none,ptr gr,.bool false])::(gx,tx,(A++([Value.int .u32 0]++Z)).toArray)::R) S (λb h=>List.mem_cons_of_mem _ (List.mem_cons_of_mem _ (hS b h))) he hv w (hw.perm permCR)) (λu M hM=>?_)
  obtain ⟨x,s',sl',q1,⟨rfl,q2⟩,q3,q4,q5,rfl⟩:=hM
  refine Sy.permS permCR.symm<|sp J<|sw 1 J (A++([Value.int .u32 (x:Int)]++Z)).toArray (Writes.one f 140 (.int .u32 (x:Int)) _ _ J kR kR kR J J (by rw [List.size_toArray,List.length_append,hA]; exact Nat.lt_add_of_pos_right (Nat.succ_pos _)) (Aq hA))<|Sy.nil ?_
  exact Sy.retT0 J (CRS gc gr gx tx (A++([Value.int .u32 (x:Int)]++Z)) sl' s'.e R) (λ_ h=>h) (λ_=>⟨x,s',sl',[Value.int .u32 (x:Int)],[],q1,rfl,λu hu=>by rw [List.mem_singleton.1 hu]; rfl,⟨rfl,q2⟩,q3,q4,q5,by rw [List.append_nil]⟩)
 refine Sy.enterT (args:=[ptr gc,pT gx f]) hw Tryz.func166 J kL<|Sy.region<|sp J<|sp J<|Sy.callT (λw hw=>item w hw) (λu M hM=>?_)
 refine Sy.nil ?_
 have hM':=hM
 obtain ⟨x,s',sl',cs,N,q1,q2,q3,q4,q5,q6,q7,rfl⟩:=hM'
 exact Sy.retT0 J _ (λ_ h=>h) (λ_=>hM)
end Wr
end
section
namespace Sc
open Go.RowKit
def pM:Nat:=115792089237316195423570985008687907852837564279074904382605163141518161494337
theorem D7:pM=115792089237316195423570985008687907852837564279074904382605163141518161494337:=rfl
theorem mod_lt (n:Nat):n%pM<(2^256):=by have:=Nat.mod_lt n (show 0<pM by decide); rw [D7] at this ⊢; omega
theorem Bx (n:Nat):n%pM<pM:=Nat.mod_lt n dZ
theorem Fk (x:Nat) (hx:x<(2^256)):x%pM=if x+432420386565659656852420866394968145599<(2^256) then x else x+432420386565659656852420866394968145599 - (2^256):=by
 rw [D7]
 by_cases h:x+432420386565659656852420866394968145599<(2^256)
 ·rw [if_pos h]; exact Nat.mod_eq_of_lt om
 ·rw [if_neg h,Nat.mod_eq_sub_mod om,Nat.mod_eq_of_lt om]
  omega
end Sc
end
section
namespace Sc
open Go.RowKit Go.Lib
theorem Ns (w:World):Calls Tryz.prog 265 #[] w λe w'=>e=.returned (fv 115792089237316195423570985008687907852837564279074904382605163141518161494337)∧Below w.heap.size w w':=by
 go_enter Tryz.func265,Tryz.ntmps265
 go_wp2
 exact bodyPost_ret (results_cell_row J _ _ w.heap.size _ _ (0,0) _ J (heap_alloc_new w _) Bh J kZ) rfl ⟨rfl,(Below.refl _ _).alloc (Nat.le_refl _) _⟩
theorem GQ (w:World) (x y:Nat) (hx:x<(2^256)) (hy:y<(2^256)):Calls Tryz.prog 264 #[fv x,fv y] w λe w'=>(∃ s k:Nat,s<(2^256)∧k≤1∧s+y=x+(2^256)*k∧e=.returned (.tuple #[fv s,.int .u64 (k:Int)]))∧Below w.heap.size w w':=by
 obtain ⟨x0,x1,x2,x3,a0,a1,a2,a3,ex,fx⟩:=Ah x hx
 obtain ⟨y0,y1,y2,y3,b0,b1,b2,b3,ey,fy⟩:=Ah y hy
 rw [fx,fy]
 obtain ⟨s0,c0,d0,k0,e0,r0⟩:=I' x0 y0 a0 b0
 obtain ⟨s1,c1,d1,k1,e1,r1⟩:=DM x1 y1 c0 a1 b1 k0
 obtain ⟨s2,c2,d2,k2,e2,r2⟩:=DM x2 y2 c1 a2 b2 k1
 obtain ⟨s3,c3,d3,k3,e3,r3⟩:=DM x3 y3 c2 a3 b3 k2
 have fin:s0+18446744073709551616*s1+340282366920938463463374607431768211456*s2+6277101735386680763835789423207666416102355444464034512896*s3+y=x+(2^256)*c3:=om
 have hs:=Lib.hid (Cs s0 s1 s2 s3 d0 d1 d2 d3)
 have hlt:=Lib.hid (Kd s0 s1 s2 s3 d0 d1 d2 d3)
 have HF:=Lib.hid fin
 have HK:=Lib.hid k3
 clear ex ey fx fy e0 e1 e2 e3 a0 a1 a2 a3 b0 b1 b2 b3 d0 d1 d2 d3 k0 k1 k2 k3 fin hx hy
 go_enter Tryz.func264,Tryz.ntmps264
 go_wp2_with fail
 go_loopw [5,7] (λbo i wr=>Below w.heap.size w wr∧Blk wr w.heap.size 143 #[.int .u64 (x0:Int),.int .u64 (x1:Int),.int .u64 (x2:Int),.int .u64 (x3:Int)]∧Blk wr (w.heap.size+1) 143 #[.int .u64 (y0:Int),.int .u64 (y1:Int),.int .u64 (y2:Int),.int .u64 (y3:Int)]∧Hid ((i=.int .i64 0∧bo=.int .u64 0∧Blk wr (w.heap.size+2) 143 #[.int .u64 0,.int .u64 0,.int .u64 0,.int .u64 0])∨(i=.int .i64 1∧bo=.int .u64 (c0:Int)∧Blk wr (w.heap.size+2) 143 #[.int .u64 (s0:Int),.int .u64 0,.int .u64 0,.int .u64 0])∨(i=.int .i64 2∧bo=.int .u64 (c1:Int)∧Blk wr (w.heap.size+2) 143 #[.int .u64 (s0:Int),.int .u64 (s1:Int),.int .u64 0,.int .u64 0])∨(i=.int .i64 3∧bo=.int .u64 (c2:Int)∧Blk wr (w.heap.size+2) 143 #[.int .u64 (s0:Int),.int .u64 (s1:Int),.int .u64 (s2:Int),.int .u64 0])∨(i=.int .i64 4∧bo=.int .u64 (c3:Int)∧Blk wr (w.heap.size+2) 143 #[.int .u64 (s0:Int),.int .u64 (s1:Int),.int .u64 (s2:Int),.int .u64 (s3:Int)]))) (λ_ i _=>4 - (intOf i).toNat)
 case atStart=>exact ⟨AX w _ _ _,((Blk.new w _ _).alloc _).alloc _,(AZ w _ _ _).alloc _,Lib.hid (.inl ⟨rfl,rfl,Ax w _ _ _ _⟩)⟩
 case round =>
  obtain ⟨hb,BX,BY,HI⟩:=hrel
  have lX:=BX.lt
  have lY:=BY.lt
  rcases HI.out with ⟨rfl,rfl,BW⟩ | ⟨rfl,rfl,BW⟩ | ⟨rfl,rfl,BW⟩ | ⟨rfl,rfl,BW⟩ | ⟨rfl,rfl,BW⟩
  ·clear HI
   have px:wr.cell? ⟨w.heap.size,0,none⟩=some (.int .u64 (x0:Int)):=BX.cell 0
   have py:wr.cell? ⟨w.heap.size+1,0,none⟩=some (.int .u64 (y0:Int)):=BY.cell 0
   go_wp2
   refine AP (λj=>j == 13) kZ ?_
   try simp only [Act.put]
   refine tk 0 J ?_
   try simp only [aPS]
   refine tk 1 J ?_
   try simp only [aPS]
   refine tk 2 J ?_
   try simp only [aPS]
   refine tkw 3 J (YieldsG.pure (v:=.int .u64 (x0:Int)) (by rfl) (λw9 h9=>by have hz:=(Below.cell (p:=⟨w.heap.size,0,none⟩) h9 lX).trans px; go_simp; first | done | simp [hz])) ?_
   try simp only [aPS]
   refine tk 4 J ?_
   try simp only [aPS]
   refine tk 5 J ?_
   try simp only [aPS]
   refine tkw 6 J (YieldsG.pure (v:=.int .u64 (y0:Int)) (by rfl) (λw9 h9=>by have hz:=(Below.cell (p:=⟨w.heap.size+1,0,none⟩) h9 lY).trans py; go_simp; first | done | simp [hz])) ?_
   try simp only [aPS]
   refine tk 7 J ?_
   try simp only [aPS]
   refine tkw 8 J (YieldsG.pure (v:=.tuple #[.int .u64 (s0:Int),.int .u64 (c0:Int)]) (by rfl) (λw9 h9=>by go_simp)) ?_
   try simp only [aPS]
   refine tk 9 J ?_
   try simp only [aPS]
   refine tk 10 J ?_
   try simp only [aPS]
   refine Ap 11 J kZ (λ_ _ _ h=>h) (λ_=>YieldsG.pure (by rfl) (λw9 _=>by go_simp; try with_reducible rfl)) ?_
   try simp only [aPS]
   refine tk 12 J ?_
   try simp only [aPS]
   refine Av 13 J kZ (by rfl) (λu hu K hK=>?_)
   have BX:=Gr.blk hu BX
   have BY:=Gr.blk hu BY
   have BW:=Gr.blk hu BW
   have hb:=Below.gr hb hu
   have pc:u.cell? ⟨w.heap.size+2,0,none⟩=some (.int .u64 0):=BW.cell 0
   have pf:=BW.frozen 0
   clear hu px py
   go_simp
   refine hK _ _ (λe=>by cases e) ?_
   clear hK K
   have hb:=hb.setCell (p:=⟨w.heap.size+2,0,none⟩) (by show w.heap.size≤w.heap.size+2; omega) (.int .u64 (s0:Int))
   have BX:=BX.far (p:=⟨w.heap.size+2,0,none⟩) (by show w.heap.size≠w.heap.size+2; omega) (.int .u64 (s0:Int))
   have BY:=BY.far (p:=⟨w.heap.size+2,0,none⟩) (by show w.heap.size+1≠w.heap.size+2; omega) (.int .u64 (s0:Int))
   have BW:=BW.set_ 0 (.int .u64 (s0:Int))
   refine Ap 14 J kZ (λ_ _ _ h=>h) (λ_=>YieldsG.pure (by rfl) (λw9 _=>by go_simp; try with_reducible rfl)) ?_
   try simp only [aPS]
   refine AO kZ (λv hv=>?_)
   have hb:=Below.gr hb hv
   have BX:=Gr.blk hv BX
   have BY:=Gr.blk hv BY
   have BW:=Gr.blk hv BW
   clear hv pc pf
   go_wp2
   refine ⟨⟨hb,BX,BY,Lib.hid (.inr (.inl (⟨rfl,rfl,BW⟩)))⟩,by decide⟩
  ·clear HI
   have px:wr.cell? ⟨w.heap.size,1,none⟩=some (.int .u64 (x1:Int)):=BX.cell 1
   have py:wr.cell? ⟨w.heap.size+1,1,none⟩=some (.int .u64 (y1:Int)):=BY.cell 1
   go_wp2
   refine AP (λj=>j == 13) kZ ?_
   try simp only [Act.put]
   refine tk 0 J ?_
   try simp only [aPS]
   refine tk 1 J ?_
   try simp only [aPS]
   refine tk 2 J ?_
   try simp only [aPS]
   refine tkw 3 J (YieldsG.pure (v:=.int .u64 (x1:Int)) (by rfl) (λw9 h9=>by have hz:=(Below.cell (p:=⟨w.heap.size,1,none⟩) h9 lX).trans px; go_simp; first | done | simp [hz])) ?_
   try simp only [aPS]
   refine tk 4 J ?_
   try simp only [aPS]
   refine tk 5 J ?_
   try simp only [aPS]
   refine tkw 6 J (YieldsG.pure (v:=.int .u64 (y1:Int)) (by rfl) (λw9 h9=>by have hz:=(Below.cell (p:=⟨w.heap.size+1,1,none⟩) h9 lY).trans py; go_simp; first | done | simp [hz])) ?_
   try simp only [aPS]
   refine tk 7 J ?_
   try simp only [aPS]
   refine tkw 8 J (YieldsG.pure (v:=.tuple #[.int .u64 (s1:Int),.int .u64 (c1:Int)]) (by rfl) (λw9 h9=>by go_simp)) ?_
   try simp only [aPS]
   refine tk 9 J ?_
   try simp only [aPS]
   refine tk 10 J ?_
   try simp only [aPS]
   refine Ap 11 J kZ (λ_ _ _ h=>h) (λ_=>YieldsG.pure (by rfl) (λw9 _=>by go_simp; try with_reducible rfl)) ?_
   try simp only [aPS]
   refine tk 12 J ?_
   try simp only [aPS]
   refine Av 13 J kZ (by rfl) (λu hu K hK=>?_)
   have BX:=Gr.blk hu BX
   have BY:=Gr.blk hu BY
   have BW:=Gr.blk hu BW
   have hb:=Below.gr hb hu
   have pc:u.cell? ⟨w.heap.size+2,1,none⟩=some (.int .u64 0):=BW.cell 1
   have pf:=BW.frozen 1
   clear hu px py
   go_simp
   refine hK _ _ (λe=>by cases e) ?_
   clear hK K
   have hb:=hb.setCell (p:=⟨w.heap.size+2,1,none⟩) (by show w.heap.size≤w.heap.size+2; omega) (.int .u64 (s1:Int))
   have BX:=BX.far (p:=⟨w.heap.size+2,1,none⟩) (by show w.heap.size≠w.heap.size+2; omega) (.int .u64 (s1:Int))
   have BY:=BY.far (p:=⟨w.heap.size+2,1,none⟩) (by show w.heap.size+1≠w.heap.size+2; omega) (.int .u64 (s1:Int))
   have BW:=BW.set_ 1 (.int .u64 (s1:Int))
   refine Ap 14 J kZ (λ_ _ _ h=>h) (λ_=>YieldsG.pure (by rfl) (λw9 _=>by go_simp; try with_reducible rfl)) ?_
   try simp only [aPS]
   refine AO kZ (λv hv=>?_)
   have hb:=Below.gr hb hv
   have BX:=Gr.blk hv BX
   have BY:=Gr.blk hv BY
   have BW:=Gr.blk hv BW
   clear hv pc pf
   go_wp2
   refine ⟨⟨hb,BX,BY,Lib.hid (.inr (.inr (.inl (⟨rfl,rfl,BW⟩))))⟩,by decide⟩
  ·clear HI
   have px:wr.cell? ⟨w.heap.size,2,none⟩=some (.int .u64 (x2:Int)):=BX.cell 2
   have py:wr.cell? ⟨w.heap.size+1,2,none⟩=some (.int .u64 (y2:Int)):=BY.cell 2
   go_wp2
   refine AP (λj=>j == 13) kZ ?_
   try simp only [Act.put]
   refine tk 0 J ?_
   try simp only [aPS]
   refine tk 1 J ?_
   try simp only [aPS]
   refine tk 2 J ?_
   try simp only [aPS]
   refine tkw 3 J (YieldsG.pure (v:=.int .u64 (x2:Int)) (by rfl) (λw9 h9=>by have hz:=(Below.cell (p:=⟨w.heap.size,2,none⟩) h9 lX).trans px; go_simp; first | done | simp [hz])) ?_
   try simp only [aPS]
   refine tk 4 J ?_
   try simp only [aPS]
   refine tk 5 J ?_
   try simp only [aPS]
   refine tkw 6 J (YieldsG.pure (v:=.int .u64 (y2:Int)) (by rfl) (λw9 h9=>by have hz:=(Below.cell (p:=⟨w.heap.size+1,2,none⟩) h9 lY).trans py; go_simp; first | done | simp [hz])) ?_
   try simp only [aPS]
   refine tk 7 J ?_
   try simp only [aPS]
   refine tkw 8 J (YieldsG.pure (v:=.tuple #[.int .u64 (s2:Int),.int .u64 (c2:Int)]) (by rfl) (λw9 h9=>by go_simp)) ?_
   try simp only [aPS]
   refine tk 9 J ?_
   try simp only [aPS]
   refine tk 10 J ?_
   try simp only [aPS]
   refine Ap 11 J kZ (λ_ _ _ h=>h) (λ_=>YieldsG.pure (by rfl) (λw9 _=>by go_simp; try with_reducible rfl)) ?_
   try simp only [aPS]
   refine tk 12 J ?_
   try simp only [aPS]
   refine Av 13 J kZ (by rfl) (λu hu K hK=>?_)
   have BX:=Gr.blk hu BX
   have BY:=Gr.blk hu BY
   have BW:=Gr.blk hu BW
   have hb:=Below.gr hb hu
   have pc:u.cell? ⟨w.heap.size+2,2,none⟩=some (.int .u64 0):=BW.cell 2
   have pf:=BW.frozen 2
   clear hu px py
   go_simp
   refine hK _ _ (λe=>by cases e) ?_
   clear hK K
   have hb:=hb.setCell (p:=⟨w.heap.size+2,2,none⟩) (by show w.heap.size≤w.heap.size+2; omega) (.int .u64 (s2:Int))
   have BX:=BX.far (p:=⟨w.heap.size+2,2,none⟩) (by show w.heap.size≠w.heap.size+2; omega) (.int .u64 (s2:Int))
   have BY:=BY.far (p:=⟨w.heap.size+2,2,none⟩) (by show w.heap.size+1≠w.heap.size+2; omega) (.int .u64 (s2:Int))
   have BW:=BW.set_ 2 (.int .u64 (s2:Int))
   refine Ap 14 J kZ (λ_ _ _ h=>h) (λ_=>YieldsG.pure (by rfl) (λw9 _=>by go_simp; try with_reducible rfl)) ?_
   try simp only [aPS]
   refine AO kZ (λv hv=>?_)
   have hb:=Below.gr hb hv
   have BX:=Gr.blk hv BX
   have BY:=Gr.blk hv BY
   have BW:=Gr.blk hv BW
   clear hv pc pf
   go_wp2
   refine ⟨⟨hb,BX,BY,Lib.hid (.inr (.inr (.inr (.inl (⟨rfl,rfl,BW⟩)))))⟩,by decide⟩
  ·clear HI
   have px:wr.cell? ⟨w.heap.size,3,none⟩=some (.int .u64 (x3:Int)):=BX.cell 3
   have py:wr.cell? ⟨w.heap.size+1,3,none⟩=some (.int .u64 (y3:Int)):=BY.cell 3
   go_wp2
   refine AP (λj=>j == 13) kZ ?_
   try simp only [Act.put]
   refine tk 0 J ?_
   try simp only [aPS]
   refine tk 1 J ?_
   try simp only [aPS]
   refine tk 2 J ?_
   try simp only [aPS]
   refine tkw 3 J (YieldsG.pure (v:=.int .u64 (x3:Int)) (by rfl) (λw9 h9=>by have hz:=(Below.cell (p:=⟨w.heap.size,3,none⟩) h9 lX).trans px; go_simp; first | done | simp [hz])) ?_
   try simp only [aPS]
   refine tk 4 J ?_
   try simp only [aPS]
   refine tk 5 J ?_
   try simp only [aPS]
   refine tkw 6 J (YieldsG.pure (v:=.int .u64 (y3:Int)) (by rfl) (λw9 h9=>by have hz:=(Below.cell (p:=⟨w.heap.size+1,3,none⟩) h9 lY).trans py; go_simp; first | done | simp [hz])) ?_
   try simp only [aPS]
   refine tk 7 J ?_
   try simp only [aPS]
   refine tkw 8 J (YieldsG.pure (v:=.tuple #[.int .u64 (s3:Int),.int .u64 (c3:Int)]) (by rfl) (λw9 h9=>by go_simp)) ?_
   try simp only [aPS]
   refine tk 9 J ?_
   try simp only [aPS]
   refine tk 10 J ?_
   try simp only [aPS]
   refine Ap 11 J kZ (λ_ _ _ h=>h) (λ_=>YieldsG.pure (by rfl) (λw9 _=>by go_simp; try with_reducible rfl)) ?_
   try simp only [aPS]
   refine tk 12 J ?_
   try simp only [aPS]
   refine Av 13 J kZ (by rfl) (λu hu K hK=>?_)
   have BX:=Gr.blk hu BX
   have BY:=Gr.blk hu BY
   have BW:=Gr.blk hu BW
   have hb:=Below.gr hb hu
   have pc:u.cell? ⟨w.heap.size+2,3,none⟩=some (.int .u64 0):=BW.cell 3
   have pf:=BW.frozen 3
   clear hu px py
   go_simp
   refine hK _ _ (λe=>by cases e) ?_
   clear hK K
   have hb:=hb.setCell (p:=⟨w.heap.size+2,3,none⟩) (by show w.heap.size≤w.heap.size+2; omega) (.int .u64 (s3:Int))
   have BX:=BX.far (p:=⟨w.heap.size+2,3,none⟩) (by show w.heap.size≠w.heap.size+2; omega) (.int .u64 (s3:Int))
   have BY:=BY.far (p:=⟨w.heap.size+2,3,none⟩) (by show w.heap.size+1≠w.heap.size+2; omega) (.int .u64 (s3:Int))
   have BW:=BW.set_ 3 (.int .u64 (s3:Int))
   refine Ap 14 J kZ (λ_ _ _ h=>h) (λ_=>YieldsG.pure (by rfl) (λw9 _=>by go_simp; try with_reducible rfl)) ?_
   try simp only [aPS]
   refine AO kZ (λv hv=>?_)
   have hb:=Below.gr hb hv
   have BX:=Gr.blk hv BX
   have BY:=Gr.blk hv BY
   have BW:=Gr.blk hv BW
   clear hv pc pf
   go_wp2
   refine ⟨⟨hb,BX,BY,Lib.hid (.inr (.inr (.inr (.inr (⟨rfl,rfl,BW⟩)))))⟩,by decide⟩
  ·clear HI
   obtain ⟨s,hsd⟩:=xE (s0+18446744073709551616*s1+340282366920938463463374607431768211456*s2+6277101735386680763835789423207666416102355444464034512896*s3)
   have hf:=hs.out
   have hl:=hlt.out
   have hn:=HF.out
   rw [← hsd] at hf hl hn
   have BS:=BW.eq_ (Bb hf.symm).symm
   have HS:=Lib.hid (And.intro hl hn)
   clear hf hl hn hsd
   go_wp2_with (first | ((with_reducible refine AE (d:=some 24) ?_); refine AC J _ _ J (w.heap.size+2) rfl s _ _ _ BS (AS s) Bh J kZ ?_) | ((with_reducible refine AF ?_); refine AB J _ _ _ J (w.heap.size+2) (fcs s) J J _ _ BS kZ (by rfl) (AM _) ?_; intro w9 hL9 hB9 hK9))
   exact bodyPost_ret (Aw J _ _ (w.heap.size+2) _ _ _ _ J hL9 J Bh J kZ) rfl ⟨⟨s,c3,HS.out.1,HK.out,HS.out.2,rfl⟩,hb.trans (hB9 _ om)⟩
theorem Hy (w:World) (x y s k:Nat) (hx:x<(2^256)) (hy:y<(2^256)) (hs:s<(2^256)) (he:s+y=x+(2^256)*k) :
  Calls Tryz.prog 264 #[fv x,fv y] w λe w'=>e=.returned (.tuple #[fv s,.int .u64 (k:Int)])∧Below w.heap.size w w':=by
 refine (GQ w x y hx hy).mono ?_
 rintro e w' ⟨⟨s',k',hs',hk',he',rfl⟩,hb⟩
 obtain rfl:k'=k:=om
 obtain rfl:s'=s:=om
 exact ⟨rfl,hb⟩
theorem PQ (w:World) (p:Nat) (hp:p=115792089237316195423570985008687907852837564279074904382605163141518161494337):Calls Tryz.prog 265 #[] w λe w'=>e=.returned (fv p)∧Below w.heap.size w w':=by
 subst hp; exact Ns w
theorem Nb (w:World) (x k z:Nat) (dk:Int) (hdk:dk=(k:Int)) (hx:x<(2^256)) (hk:k≤1) (h2:x+(2^256)*k<115792089237316195423570985008687907852837564279074904382605163141518161494337+115792089237316195423570985008687907852837564279074904382605163141518161494337) (hz:z=(x+(2^256)*k)%pM):Calls Tryz.prog 236 #[fv x,.int .u64 dk] w λe w'=>e=.returned (fv z)∧Below w.heap.size w w':=by
 subst hdk
 obtain ⟨p,hp⟩:∃ p,p=115792089237316195423570985008687907852837564279074904382605163141518161494337:=⟨_,rfl⟩
 rw [D7, ← hp] at hz
 rw [← hp] at h2
 have hpl:p<(2^256):=om
 obtain ⟨s,b,hs,hb,he⟩:∃ s b:Nat,s<(2^256)∧b≤1∧s+p=x+(2^256)*b:=by
  by_cases h:p≤x
  ·exact ⟨x - p,0,by omega,by omega,by omega⟩
  ·exact ⟨x+(2^256) - p,1,by omega,by omega,by omega⟩
 have cm:=λw=>Hy w x p s b hx hpl hs he
 have co:=λw=>PQ w p hp
 have t1:b>k→z=x:=λh=>by
  obtain rfl:k=0:=om
  rw [hz,Nat.mod_eq_of_lt om]; omega
 have t2:¬ b>k→z=s:=λh=>by
  rw [hz,Nat.mod_eq_sub_mod om,Nat.mod_eq_of_lt om]
  rcases (show k=0∨k=1 by omega) with rfl|rfl <;> omega
 obtain ⟨x0,x1,x2,x3,fx⟩:=Ad x hx
 have FX:=Lib.hid fx
 rw [fx]
 clear fx hx hz hp h2 hpl hs hb he hk
 go_enter Tryz.func236,Tryz.ntmps236
 go_wp2
 refine AP (λj=>j == 7) kZ ?_
 try simp only [Act.put]
 refine tkw 0 J (YieldsG.loadF (by rfl) _ _ J w.heap.size rfl x _ _ ((Blk.new w _ _).alloc _) FX.out Bh J kZ) ?_
 try simp only [aPS]
 refine tkw 1 J (YieldsG.call (v:=fv p) (by rfl) 265 _ (λw9=>by go_simp; try rfl) (λw9 h9=>co w9)) ?_
 try simp only [aPS]
 refine tkw 2 J (YieldsG.call (v:=.tuple #[fv s,.int .u64 (b:Int)]) (by rfl) 264 _ (λw9=>by go_simp; try rfl) (λw9 h9=>cm w9)) ?_
 try simp only [aPS]
 refine tk 3 J ?_
 try simp only [aPS]
 refine tk 4 J ?_
 try simp only [aPS]
 refine Ap 5 J kZ (λ_ _ _ h=>h) (λ_=>YieldsG.pure (by rfl) (λw9 _=>by go_simp; try with_reducible rfl)) ?_
 try simp only [aPS]
 refine Av 6 J kZ (by rfl) (λw3 h3 K hK=>?_)
 go_simp
 refine hK _ _ (λ_=>Bz _ _) ?_
 clear hK K
 try simp only [aPS]
 refine CC 7 J kZ (by rfl) _ _ _ J w3.heap.size (fcs s) J J _ _ (Blk.new w3 _ _) kZ (by rfl) (AM _) rfl (λw6 h6 w7 hB7 hL7=>?_)
 try simp only [Act.put]
 refine Ap 8 J kZ (λ_ _ _ h=>h) (λ_=>YieldsG.pure (by rfl) (λw9 _=>by go_simp; try with_reducible rfl)) ?_
 try simp only [aPS]
 refine AO kZ (λw8 h8=>?_)
 have BS:=Gr.blk h8 hL7
 have hsz:w.heap.size+2≤w3.heap.size:=by have:=h3.size; simp at this; omega
 have BX:Blk w8 w.heap.size 143 _:=Gr.blk h8 (Blk.below (B:=w3.heap.size) (Gr.blk h6 (Blk.alloc (Gr.blk h3 ((Blk.new w _ _).alloc _)) _)) (hB7 _ (Nat.le_refl _)) om)
 have BR:Blk w8 (w.heap.size+1) 143 _:=Gr.blk h8 (Blk.below (B:=w3.heap.size) (Gr.blk h6 (Blk.alloc (Gr.blk h3 (AZ w _ _ _)) _)) (hB7 _ (Nat.le_refl _)) om)
 have hB:Below w.heap.size w w8:=Below.gr ((Below.gr ((Below.gr (AY w _ _) h3).alloc om _) h6).trans (hB7 _ om)) h8
 clear h3 h6 hB7 hL7 h8 cm co
 by_cases hbk:b>k
 ·have HZ:=Lib.hid (t1 hbk)
  have p0:(b:Int)>(k:Int):=om
  clear t1 t2 hbk
  go_wp2_with (first | ((with_reducible refine AE (d:=some 16) ?_); refine AC J _ _ J w.heap.size rfl x _ _ _ BX FX.out Bh J kZ ?_) | ((with_reducible refine AF ?_); refine AB J _ _ _ J (w.heap.size+1) (fcs x) J J _ _ BR kZ (by rfl) (AM _) ?_; intro w9 hL9 hB9 hK9))
  exact bodyPost_ret (results_cell_row J _ _ (w.heap.size+1) _ _ (0,0) _ J hL9 Bh J kZ) rfl ⟨by rw [HZ.out]; rfl,hB.trans (hB9 _ om)⟩
 ·have HZ:=Lib.hid (t2 hbk)
  have p0:¬ (b:Int)>(k:Int):=om
  clear t1 t2 hbk
  go_wp2_with (first | ((with_reducible refine AE (d:=some 17) ?_); refine AC J _ _ J w3.heap.size rfl s _ _ _ BS (AS s) Bh J kZ ?_) | ((with_reducible refine AF ?_); refine AB J _ _ _ J (w.heap.size+1) (fcs s) J J _ _ BR kZ (by rfl) (AM _) ?_; intro w9 hL9 hB9 hK9))
  exact bodyPost_ret (results_cell_row J _ _ (w.heap.size+1) _ _ (0,0) _ J hL9 Bh J kZ) rfl ⟨by rw [HZ.out]; rfl,hB.trans (hB9 _ om)⟩
theorem norm_any (w:World) (x:Nat) (hx:x<(2^256)):Calls Tryz.prog 204 #[fv x] w λe w'=>e=.returned (fv (x%pM))∧Below w.heap.size w w':=by
 obtain ⟨z,hz⟩:=xE (x%pM)
 have cr:=λw=>Nb w x 0 z 0 J hx om om (by rw [hz]; rfl)
 obtain ⟨x0,x1,x2,x3,fx⟩:=Ad x hx
 have FX:=Lib.hid fx
 rw [fx] at cr ⊢
 rw [← hz]
 clear fx hx hz
 go_enter Tryz.func204,Tryz.ntmps204
 go_wp2_with fail
 refine (cr _).mono ?_
 rintro e w1 ⟨rfl,hb1⟩
 have hg:=Below.gr (AY w _ _) hb1
 have hR:Blk w1 (w.heap.size+1) 143 _:=Gr.blk hb1 (AZ w _ _ _)
 go_wp2_with ((with_reducible refine AF ?_); refine AB J _ _ _ J (w.heap.size+1) (fcs z) J J _ _ hR kZ (by rfl) (AM _) ?_; intro w4 hL hB4 hK4)
 exact bodyPost_ret (results_cell_row J _ _ (w.heap.size+1) _ _ (0,0) _ J hL Bh J kZ) rfl ⟨rfl,hg.trans (hB4 _ om)⟩
theorem bytes_any (w:World) (x:Nat) (hx:x<(2^256)):Calls Tryz.prog 205 #[fv x] w λe w'=>e=.returned (.agg ((AV (x%pM)).map bv).toArray)∧Below w.heap.size w w':=by
 obtain ⟨z,hz⟩:=xE (x%pM)
 have hzl:z<(2^256):=by rw [hz]; exact mod_lt x
 have cn:∀ w,Calls Tryz.prog 204 #[fv x] w λe w'=>e=.returned (fv z)∧Below w.heap.size w w':=by
  intro w; rw [hz]; exact norm_any w x hx
 rw [← hz]
 obtain ⟨z0,z1,z2,z3,a0,a1,a2,a3,ez,fz⟩:=Ah z hzl
 have HZ:=Lib.hid (And.intro a0 (And.intro a1 (And.intro a2 (And.intro a3 ez))))
 have FZ:=Lib.hid fz
 obtain ⟨x0,x1,x2,x3,fx⟩:=Ad x hx
 rw [fx] at cn ⊢
 clear fx fz hz hzl a0 a1 a2 a3 ez hx
 have hZB:Hid ((List.replicate 32 (Value.int .u8 0)).toArray=((Db z 0).map bv).toArray):=Lib.hid (by simp [Db,FN,bv])
 go_enter Tryz.func205,Tryz.ntmps205
 go_wp2_with fail
 refine (cn _).mono ?_
 rintro e w1 ⟨rfl,hb⟩
 have BR:Blk w1 (w.heap.size+1) 36 _:=Gr.blk hb (Blk.alloc (AZ w _ _ _) _)
 have BB:Blk w1 (w.heap.size+2) 36 ((Db z 0).map bv).toArray:=Blk.eq_ (Gr.blk hb (Ax w _ _ _ _)) hZB.out
 have hB:=Below.gr (AX w _ _ _) hb
 have sz:=BB.lt
 clear hb cn
 go_wp2_with ((with_reducible refine AF ?_); refine AB J _ _ _ J w1.heap.size (fcs z) J J _ _ (Blk.new w1 _ _) kZ (by rfl) (AM _) ?_; intro w2 hL2 hB2 hK2; have CR:=hK2 _ om _ _ (BR.alloc _); have CB:=hK2 _ om _ _ (BB.alloc _); have hC:=(hB.alloc om _).trans (hB2 _ om))
 go_loopw [8] (λi wr=>∃ k:Nat,k≤32∧i=.int .i64 (k:Int)∧Below w.heap.size w wr∧Blk wr (w.heap.size+2) 36 ((Db z k).map bv).toArray∧Blk wr w1.heap.size 143 #[.int .u64 (z0:Int),.int .u64 (z1:Int),.int .u64 (z2:Int),.int .u64 (z3:Int)]∧Blk wr (w.heap.size+1) 36 (List.replicate 32 (Value.int .u8 0)).toArray) (λi _=>32 - (intOf i).toNat)
 case atStart=>exact ⟨0,by omega,rfl,hC,CB,hL2.eq_ (Bb FZ.out),CR⟩
 case round =>
  obtain ⟨k,hk,rfl,hb,hP,hN,hR⟩:=hrel
  by_cases hlt:k<32
  ·have ce:∀ j,j<32→∃ v,wr.cell? ⟨w.heap.size+1+1,j,none⟩=some v:=λj hj=>⟨_,(hP.cell j).trans (Array.getElem?_eq_getElem (by simp [Ft z k hk]; exact hj))⟩
   obtain ⟨v,hv⟩:=ce (31 - k) om
   have ff:=hP.frozen (31 - k)
   have q0:wr.cell? ⟨w1.heap.size,0,none⟩=some (.int .u64 (z0:Int)):=hN.cell 0
   have q1:wr.cell? ⟨w1.heap.size,1,none⟩=some (.int .u64 (z1:Int)):=hN.cell 1
   have q2:wr.cell? ⟨w1.heap.size,2,none⟩=some (.int .u64 (z2:Int)):=hN.cell 2
   have q3:wr.cell? ⟨w1.heap.size,3,none⟩=some (.int .u64 (z3:Int)):=hN.cell 3
   have hPn:=hP.set_ (31 - k) (bv (Cl z k))
   rw [Il z k hlt] at hPn
   have HP:=Lib.hid hPn
   clear hPn ce
   have HR:=Lib.hid (And.intro hb (And.intro hN hR))
   clear hb hP hN hR hk
   have hsz:w.heap.size+2<w1.heap.size:=sz
   rcases (C7 k) with rfl|rfl|rfl|rfl|rfl|rfl|rfl|rfl|rfl|rfl|rfl|rfl|rfl|rfl|rfl|rfl|rfl|rfl|rfl|rfl|rfl|rfl|rfl|rfl|rfl|rfl|rfl|rfl|rfl|rfl|rfl|rfl
   all_goals
    go_wp2
    obtain ⟨a0,a1,a2,a3,ez⟩:=HZ.out
    refine ⟨⟨_,by decide,rfl,HR.out.1.setCell (by show w.heap.size≤w.heap.size+1+1; omega) _,HP.out.val (by rw [Ks]; congr 1; omega),HR.out.2.1.far (by show w1.heap.size≠w.heap.size+1+1; omega) _,HR.out.2.2.far (by show w.heap.size+1≠w.heap.size+1+1; omega) _⟩,by simp [intOf]⟩
  ·have p1:¬ (k:Int)<32:=om
   obtain rfl:k=32:=om
   rw [Ho] at hP
   have HI:=Lib.hid (AN z)
   have HL:=Lib.hid hP
   have HR:=Lib.hid hR
   clear hN hP hR
   go_wp2_with (first | ((with_reducible refine AE (d:=some 24) ?_); refine Al J _ _ J (w.heap.size+2) rfl _ _ _ HL.out I4 J (Cw HI.out) ?_) | ((with_reducible refine AF ?_); refine AB J _ _ _ J (w.heap.size+1) ((AV z).map bv).toArray J J _ _ HR.out (Cw HI.out) (by simp [HI.out]) (M9 _) ?_; intro w9 hL9 hB9 hK9))
   exact bodyPost_ret (results_cell_row J _ _ (w.heap.size+1) _ _ (0,0) _ J hL9 I4 J (Cw HI.out)) J ⟨rfl,hb.trans (hB9 _ om)⟩
theorem BV (W:World) (n m:Nat) (hn:n<(2^256)) (hm:m<(2^256)):(Op.equalIn 10000 143 (fv n) (fv m)).run Tryz.prog W=.ok (decide (n=m)) W:=by
 rw [C0,C0]
 have h:=Bv W 9998 143 22 4 Bh CF (λW=>kZ) (wl n) (wl m) rfl J
 rw [G6 hn hm] at h
 exact h
theorem run_eql_fv (W:World) (n m:Nat) (hn:n<(2^256)) (hm:m<(2^256)):(binOp .eql 143 (fv n) (fv m)).run Tryz.prog W=.ok (.bool (decide (n=m))) W:=by
 have h:=BV W n m hn hm
 rw [C0,C0] at h ⊢
 rw [run_eql_struct,h]
 rfl
theorem run_neq_fv (W:World) (n m:Nat) (hn:n<(2^256)) (hm:m<(2^256)):(binOp .neq 143 (fv n) (fv m)).run Tryz.prog W=.ok (.bool (decide (n≠m))) W:=by
 have h:=BV W n m hn hm
 rw [C0,C0] at h ⊢
 rw [run_neq_struct,h]
 by_cases e:n=m <;> simp [e]
theorem run_eqGuard_fv (op:BinOp) (x y:Operand) (n m:Nat) (W:World):(eqGuard op 143 x y (fv n) (fv m)).run Tryz.prog W=.ok () W:=by
 rw [AS,AS]
 go_simp
theorem NI (w:World) (l:Ao) (hl:l.length=32):Calls Tryz.prog 237 #[.agg (l.map bv).toArray] w λe w'=>e=.returned (fv (Ag l))∧Below w.heap.size w w':=by
 have HL:=Lib.hid hl
 clear hl
 go_enter Tryz.func237,Tryz.ntmps237
 go_wp2_with ((with_reducible refine AE (d:=some 6) ?_); refine Al J _ _ J w.heap.size J _ _ _ (((Blk.new w _ _).alloc _).alloc _) I4 J (Cw HL.out) ?_)
 go_loopw [7] (λi wr=>∃ k y0 y1 y2 y3:Nat,k≤32∧i=.int .i64 (k:Int)∧Hid (y0=wdB l k 0∧y1=wdB l k 1∧y2=wdB l k 2∧y3=wdB l k 3)∧Below w.heap.size w wr∧Blk wr (w.heap.size+2) 143 #[.int .u64 (y3:Int),.int .u64 (y2:Int),.int .u64 (y1:Int),.int .u64 (y0:Int)]∧Blk wr (w.heap.size+1) 143 #[.int .u64 0,.int .u64 0,.int .u64 0,.int .u64 0]) (λi _=>32 - (intOf i).toNat)
 case atStart=>exact ⟨0,0,0,0,0,by omega,rfl,Lib.hid ⟨(Be l 0).symm,(Be l 1).symm,(Be l 2).symm,(Be l 3).symm⟩,AX w _ _ _,Ax w _ _ _ _,(AZ w _ _ _).alloc _⟩
 case round =>
  obtain ⟨k,y0,y1,y2,y3,hk,rfl,HY,hb,hP,hR⟩:=hrel
  have q3:wr.cell? ⟨w.heap.size+1+1,0,none⟩=some (.int .u64 (y3:Int)):=hP.cell 0
  have q2:wr.cell? ⟨w.heap.size+1+1,1,none⟩=some (.int .u64 (y2:Int)):=hP.cell 1
  have q1:wr.cell? ⟨w.heap.size+1+1,2,none⟩=some (.int .u64 (y1:Int)):=hP.cell 2
  have q0:wr.cell? ⟨w.heap.size+1+1,3,none⟩=some (.int .u64 (y0:Int)):=hP.cell 3
  have ff:∀ j,wr.frozen? ⟨w.heap.size+1+1,j,none⟩=false:=λj=>hP.frozen j
  by_cases hlt:k<32
  ·obtain ⟨c,hc⟩:∃ c,l[k]? = some c:=⟨l[k]'(by rw [HL.out]; exact hlt),List.getElem?_eq_getElem _⟩
   have HC:=Lib.hid hc
   obtain ⟨m,hm⟩:=xE c.toNat
   have hm8:m<256:=by rw [hm]; exact c.toNat_lt
   have hI:∀ W,(Instr.index 36 (.agg (l.map bv).toArray) (.int .i64 (k:Int))).run Tryz.prog W=.ok (.int .u8 (m:Int)) W:=λW=>by
    rw [E' W l k c hc hlt,hm]; rfl
   have HM:=Lib.hid hm
   have HR:=Lib.hid (And.intro hb (And.intro hP hR))
   clear hb hP hR hc hk hm
   rcases (C7 k) with rfl|rfl|rfl|rfl|rfl|rfl|rfl|rfl|rfl|rfl|rfl|rfl|rfl|rfl|rfl|rfl|rfl|rfl|rfl|rfl|rfl|rfl|rfl|rfl|rfl|rfl|rfl|rfl|rfl|rfl|rfl|rfl
   all_goals
    simp only [Int.cast_ofNat_Int] at hI
   all_goals
    first
    | ((have hy:y0<72057594037927936:=by rw [HY.out.1]; exact Cg l _ 0 dZ); (have ho:=Ej y0 m hy hm8); go_wp2; (refine ⟨⟨_,y0*256+m,y1,y2,y3,by decide,rfl,Lib.hid ⟨by rw [HY.out.1,HM.out]; exact (Bf l _ 0 c HC.out dZ).symm,by rw [HY.out.2.1]; exact (AR l _ 1 dZ).symm,by rw [HY.out.2.2.1]; exact (AR l _ 2 dZ).symm,by rw [HY.out.2.2.2]; exact (AR l _ 3 dZ).symm⟩,HR.out.1.setCell (by show w.heap.size≤w.heap.size+1+1; omega) _,Blk.eq_ (HR.out.2.1.set_ 3 _) (by rw [show ((y0*256+m:Nat):Int)=(y0:Int)*256+(m:Int) by omega]; rfl),HR.out.2.2.far (by show w.heap.size+1≠w.heap.size+1+1; omega) _⟩,by simp [intOf]⟩))
    | ((have hy:y1<72057594037927936:=by rw [HY.out.2.1]; exact Cg l _ 1 dZ); (have ho:=Ej y1 m hy hm8); go_wp2; (refine ⟨⟨_,y0,y1*256+m,y2,y3,by decide,rfl,Lib.hid ⟨by rw [HY.out.1]; exact (AR l _ 0 dZ).symm,by rw [HY.out.2.1,HM.out]; exact (Bf l _ 1 c HC.out dZ).symm,by rw [HY.out.2.2.1]; exact (AR l _ 2 dZ).symm,by rw [HY.out.2.2.2]; exact (AR l _ 3 dZ).symm⟩,HR.out.1.setCell (by show w.heap.size≤w.heap.size+1+1; omega) _,Blk.eq_ (HR.out.2.1.set_ 2 _) (by rw [show ((y1*256+m:Nat):Int)=(y1:Int)*256+(m:Int) by omega]; rfl),HR.out.2.2.far (by show w.heap.size+1≠w.heap.size+1+1; omega) _⟩,by simp [intOf]⟩))
    | ((have hy:y2<72057594037927936:=by rw [HY.out.2.2.1]; exact Cg l _ 2 dZ); (have ho:=Ej y2 m hy hm8); go_wp2; (refine ⟨⟨_,y0,y1,y2*256+m,y3,by decide,rfl,Lib.hid ⟨by rw [HY.out.1]; exact (AR l _ 0 dZ).symm,by rw [HY.out.2.1]; exact (AR l _ 1 dZ).symm,by rw [HY.out.2.2.1,HM.out]; exact (Bf l _ 2 c HC.out dZ).symm,by rw [HY.out.2.2.2]; exact (AR l _ 3 dZ).symm⟩,HR.out.1.setCell (by show w.heap.size≤w.heap.size+1+1; omega) _,Blk.eq_ (HR.out.2.1.set_ 1 _) (by rw [show ((y2*256+m:Nat):Int)=(y2:Int)*256+(m:Int) by omega]; rfl),HR.out.2.2.far (by show w.heap.size+1≠w.heap.size+1+1; omega) _⟩,by simp [intOf]⟩))
    | ((have hy:y3<72057594037927936:=by rw [HY.out.2.2.2]; exact Cg l _ 3 dZ); (have ho:=Ej y3 m hy hm8); go_wp2; (refine ⟨⟨_,y0,y1,y2,y3*256+m,by decide,rfl,Lib.hid ⟨by rw [HY.out.1]; exact (AR l _ 0 dZ).symm,by rw [HY.out.2.1]; exact (AR l _ 1 dZ).symm,by rw [HY.out.2.2.1]; exact (AR l _ 2 dZ).symm,by rw [HY.out.2.2.2,HM.out]; exact (Bf l _ 3 c HC.out dZ).symm⟩,HR.out.1.setCell (by show w.heap.size≤w.heap.size+1+1; omega) _,Blk.eq_ (HR.out.2.1.set_ 0 _) (by rw [show ((y3*256+m:Nat):Int)=(y3:Int)*256+(m:Int) by omega]; rfl),HR.out.2.2.far (by show w.heap.size+1≠w.heap.size+1+1; omega) _⟩,by simp [intOf]⟩))
  ·have p1:¬ (k:Int)<32:=om
   obtain rfl:k=32:=om
   have b0:y0<18446744073709551616:=by rw [HY.out.1]; exact B8 l _ _
   have b1:y1<18446744073709551616:=by rw [HY.out.2.1]; exact B8 l _ _
   have b2:y2<18446744073709551616:=by rw [HY.out.2.2.1]; exact B8 l _ _
   have b3:y3<18446744073709551616:=by rw [HY.out.2.2.2]; exact B8 l _ _
   obtain ⟨z,hz⟩:=xE (y3+18446744073709551616*y2+340282366920938463463374607431768211456*y1+6277101735386680763835789423207666416102355444464034512896*y0)
   have fz:=Cs y3 y2 y1 y0 b3 b2 b1 b0
   rw [← hz] at fz
   have hzv:Ag l=z:=by rw [Gt l HL.out,hz,HY.out.1,HY.out.2.1,HY.out.2.2.1,HY.out.2.2.2]
   have HZ:=Lib.hid hzv
   have FZ:=Lib.hid fz.symm
   have HP:=Lib.hid hP
   have HR:=Lib.hid hR
   clear HY b0 b1 b2 b3 hz fz hzv q0 q1 q2 q3 ff hP hR
   go_wp2_with (first | ((with_reducible refine AE (d:=some 25) ?_); refine AC J _ _ J (w.heap.size+2) rfl z _ _ _ HP.out FZ.out Bh J kZ ?_) | ((with_reducible refine AF ?_); refine AB J _ _ _ J (w.heap.size+1) (fcs z) J J _ _ HR.out kZ (by rfl) (AM _) ?_; intro vz hLz hqz hKz))
   exact bodyPost_ret (results_cell_row J _ _ (w.heap.size+1) _ _ (0,0) _ J hLz Bh J kZ) rfl ⟨by rw [HZ.out]; rfl,hb.trans (hqz _ om)⟩
def readS (l:Ao):Nat×Bool:=if Ag l<pM then (Ag l,true) else (0,false)
theorem read_any (w:World) (l:Ao) (hl:l.length=32):Calls Tryz.prog 206 #[.agg (l.map bv).toArray] w λe w'=>e=.returned (.tuple #[fv (readS l).1,.bool (readS l).2])∧Below w.heap.size w w':=by
 obtain ⟨z,hz⟩:=xE (Ag l)
 have hzl:z<(2^256):=by rw [hz]; exact Bo l hl
 obtain ⟨n,hn⟩:=xE (z%pM)
 have hnl:n<(2^256):=by rw [hn]; exact mod_lt z
 obtain ⟨b,hbd⟩:=xE (decide (n≠z))
 have eb:∀ W,(binOp .neq 143 (fv n) (fv z)).run Tryz.prog W=.ok (.bool b) W:=λW=>by rw [hbd]; exact run_neq_fv W n z hnl hzl
 have cw:∀ w,Calls Tryz.prog 237 #[.agg (l.map bv).toArray] w λe w'=>e=.returned (fv z)∧Below w.heap.size w w':=by
  intro w; rw [hz]; exact NI w l hl
 have cn:∀ w,Calls Tryz.prog 204 #[fv z] w λe w'=>e=.returned (fv n)∧Below w.heap.size w w':=by
  intro w; rw [hn]; exact norm_any w z hzl
 have hS:readS l=if b=true then (0,false) else (z,true):=by
  unfold readS
  rw [← hz,hbd,hn]
  by_cases h:z<pM
  ·rw [if_pos h,Nat.mod_eq_of_lt h]; simp
  ·have h2:z%pM≠z:=λe=>h (by rw [← e]; exact Bx z)
   rw [if_neg h]; simp [h2]
 have HS:=Lib.hid hS
 have HL:=Lib.hid hl
 clear hl hz hzl hn hnl hbd hS
 go_enter Tryz.func206,Tryz.ntmps206
 go_wp2_with ((with_reducible refine AE (d:=some 5) ?_); refine Al J _ _ J w.heap.size J _ _ _ ((Blk.new w _ _).alloc _) I4 J (Cw HL.out) ?_)
 refine (cw _).mono ?_
 rintro e w1 ⟨rfl,k1⟩
 have BR:=Gr.blk k1 (AZ w _ _ _)
 have sz:=BR.lt
 have hB:=Below.gr (AY w _ _) k1
 clear k1 cw
 go_wp2_with ((with_reducible refine AF ?_); refine AB J _ _ _ J w1.heap.size (fcs z) J J _ _ (Blk.new w1 _ _) kZ (by rfl) (AM _) ?_; intro w2 hL2 hq2 hK2; have CR:=hK2 _ om _ _ (BR.alloc _); have hB2:=(hB.alloc om _).trans (hq2 _ om))
 refine AP (λ_=>false) kZ ?_
 try simp only [Act.put]
 refine tkw 0 J (YieldsG.loadF (by rfl) _ _ J w1.heap.size rfl z _ _ hL2 (AS _) Bh J kZ) ?_
 try simp only [aPS]
 refine tkw 1 J (YieldsG.call (v:=fv n) (by rfl) 204 _ (λw9=>by go_simp; try rfl) (λw9 h9=>cn w9)) ?_
 try simp only [aPS]
 refine tkw 2 J (YieldsG.loadF (by rfl) _ _ J w1.heap.size rfl z _ _ hL2 (AS _) Bh J kZ) ?_
 try simp only [aPS]
 refine tkw 3 J (YieldsG.pure (v:=.bool b) (by rfl) (λw9 h9=>by go_simp; rw [run_eqGuard_fv]; simp only [Result.andThen_ok])) ?_
 try simp only [aPS]
 refine AO kZ (λu hu=>?_)
 have hbu:=Below.gr hB2 hu
 have BRu:=Gr.blk hu CR
 have BP:=Gr.blk hu hL2
 clear hu hB2 CR hL2 eb cn
 cases b
 ·have HT:Hid (readS l=(z,true)):=Lib.hid (by rw [HS.out]; rfl)
  clear HS
  go_wp2_with (first | ((with_reducible refine AE (d:=some 12) ?_); refine AC J _ _ J w1.heap.size rfl z _ _ _ BP (AS _) Bh J kZ ?_) | ((with_reducible refine AF ?_); refine AB J _ _ _ J (w.heap.size+1) (fcs z) J J _ _ BRu kZ (by rfl) (AM _) ?_; intro vz hLz hqz hKz))
  exact bodyPost_ret (Aw J _ _ (w.heap.size+1) _ _ _ _ J hLz J Bh J kZ) rfl ⟨by rw [HT.out]; rfl,hbu.trans (hqz _ om)⟩
 ·have HT:Hid (readS l=(0,false)):=Lib.hid (by rw [HS.out]; rfl)
  clear HS
  go_wp2_with ((with_reducible refine AF ?_); refine AB J _ _ _ J (w.heap.size+1) _ J J _ _ BRu kZ (by rfl) (by simp [Value.oneCell']) ?_; intro vz hLz hqz hKz)
  exact bodyPost_ret (Aw J _ _ (w.heap.size+1) _ _ _ _ J hLz J Bh J kZ) rfl ⟨by rw [HT.out]; rfl,hbu.trans (hqz _ om)⟩
end Sc
end
section
namespace Wr
open Go.RowKit Sy
def JV (n:Nat):Bool:=decide (n%Sc.pM=n)
def Dd (n:Nat):Byt:=AV (n%Sc.pM)
def Nd:Ps Nat:=AJ (A_ 32) λl=>AJ (BJ (Sc.readS l).2) λ_=>BO (Sc.readS l).1
def O2 (_:Rdr) (cs:List Value) (n:Nat):Prop:=cs=Cu.fws n∧n<Cu.K4
def El (a:MAmt):Bool:=(!a.blind && decide (a.value=0)) && FD a.pt
structure MIs where
 kind:Int
 amount:MAmt
 range:Byt
 tokens:Nat
 entropy:Byt
 blind:Nat
def zAM:MAmt:=⟨false,0,⟨0,0,false⟩⟩
def zIS:MIs:=⟨0,zAM,[],0,z32,0⟩
def DE (i:MIs):Bool:=El i.amount && (decide (i.range.length=0) && (decide (i.tokens=0) && (decide (i.entropy=z32) && decide (i.blind=0))))
def Iq (i:MIs):Bool:=LO i.amount && (decide (i.range.length≤6000) && JV i.blind)
def C4 (i:MIs):Bool:=if i.kind=0 then DE i else if i.kind=1∨i.kind=2 then Iq i else false
def IG (i:MIs):Byt:=Gk i.amount++(Er i.range++(nb 8 i.tokens++(i.entropy++Dd i.blind)))
def Dq (i:MIs):Byt:=[CZ i.kind]++(if i.kind=0 then [] else IG i)
def DH (i:MIs):Nat:=1+(34+((9+i.range.length)+(8+(32+32))))
def Ke (k:Int):Ps MIs:=AJ JJ λa=>AJ (Bu 6000) λr=>AJ (Bj 8) λt=>AJ (A_ 32) λe=>AJ Nd λs=>BO ⟨k,a,r,t,e,s⟩
def Gq:Ps MIs:=AJ CY λk=>if k=0 then BO zIS else AJ (BJ (decide (k=1∨k=2))) λ_=>Ke k
def cIS (i:MIs) (vr:Value):List Value:=[.int .i64 i.kind]++(cAM i.amount++([vr]++([.int .u64 (i.tokens:Int)]++(i.entropy.map bv++Cu.fws i.blind))))
def D4 (C:Rdr) (cs:List Value) (i:MIs):Prop:=∃ vr,cs=cIS i vr∧(i.amount.value<18446744073709551616∧i.amount.pt.x<Cu.K4∧i.amount.pt.y<Cu.K4)∧BytR C vr i.range∧i.tokens<18446744073709551616∧i.entropy.length=32∧i.blind<Cu.K4
theorem Hw:BI D4:=λhl ⟨vr,h0,h1,h2,h3,h4,h5⟩=>⟨vr,h0,h1,h2.le hl,h3,h4,h5⟩
theorem F6 (n:Nat):(Cu.fws n).length=4:=rfl
theorem F5 (n:Nat):∀ u∈Cu.fws n,u.oneCell'=true:=λu hu=>by
 simp only [Cu.fws,List.mem_cons,List.not_mem_nil,or_false] at hu
 rcases hu with rfl|rfl|rfl|rfl <;> rfl
theorem Mk {C:Rdr} {cs:List Value} {t:MIs} (h:D4 C cs t):cs.length=50:=by
 obtain ⟨vr,rfl,h1,h2,h3,h4,h5⟩:=h
 simp only [cIS,cAM,List.length_append,List.length_map,h4,F6,Cb]; rfl
theorem Fv {C:Rdr} {cs:List Value} {t:MIs} (h:D4 C cs t):∀ u∈cs,u.oneCell'=true:=by
 obtain ⟨vr,rfl,h1,h2,h3,h4,h5⟩:=h
 exact AG (λu hu=>by rw [List.mem_singleton.1 hu]; rfl) (AG (AG (λu hu=>by rw [List.mem_singleton.1 hu]; rfl) (AG (λu hu=>by rw [List.mem_singleton.1 hu]; rfl) (CD _))) (AG (λu hu=>by rw [List.mem_singleton.1 hu]; exact h2.cells.2) (AG (λu hu=>by rw [List.mem_singleton.1 hu]; rfl) (AG (Bw _) (F5 _)))))
structure MPg where
 header:Byt
 tx:Byt
 place:Nat
 many:Nat
 path:List Byt
 script:Byt
def zPG:MPg:=⟨z32,[],0,0,[],[]⟩
def DL (p:MPg):Bool:=decide (p.header=z32) && (decide (p.tx.length=0) && (decide (p.place=0) && (decide (p.many=0) && (decide (p.path.length=0) && decide (p.script.length=0)))))
def Hr (p:MPg):Bool:=decide (p.tx.length≤1024) && (decide (p.path.length≤32) && decide (p.script.length≤256))
def F9 (p:MPg):Byt:=p.header++(Er p.tx++(nb 4 p.place++(nb 4 p.many++(IR (λd=>d) p.path++Er p.script))))
def EZ (p:MPg):Nat:=32+((9+p.tx.length)+(4+(4+((9+(p.path.map λ_=>32).sum)+(9+p.script.length)))))
def JI:Ps MPg:=AJ (A_ 32) λh=>AJ (Bu 1024) λt=>AJ (Bj 4) λp=>AJ (Bj 4) λm=>AJ (Cz 32 (A_ 32)) λl=>AJ (Bu 256) λs=>BO ⟨h,t,p,m,l,s⟩
def cPG (p:MPg) (vt vp vs:Value):List Value:=p.header.map bv++([vt]++([.int .u32 (p.place:Int)]++([.int .u32 (p.many:Int)]++([vp]++[vs]))))
def D3 (C:Rdr) (cs:List Value) (p:MPg):Prop:=∃ vt vp vs,cs=cPG p vt vp vs∧p.header.length=32∧BytR C vt p.tx∧p.place<4294967296∧p.many<4294967296∧LstR C 32 DC vp p.path∧BytR C vs p.script
theorem LZ:BI D3:=λhl ⟨vt,vp,vs,h0,h1,h2,h3,h4,h5,h6⟩=>⟨vt,vp,vs,h0,h1,h2.le hl,h3,h4,LstR.le (rep:=DC) Eo hl h5,h6.le hl⟩
theorem Pw {C:Rdr} {cs:List Value} {t:MPg} (h:D3 C cs t):cs.length=37:=by
 obtain ⟨vt,vp,vs,rfl,h1,_⟩:=h
 simp only [cPG,List.length_append,List.length_map,h1]; rfl
theorem PY {C:Rdr} {cs:List Value} {t:MPg} (h:D3 C cs t):∀ u∈cs,u.oneCell'=true:=by
 obtain ⟨vt,vp,vs,rfl,h1,h2,h3,h4,h5,h6⟩:=h
 exact AG (Bw _) (AG (λu hu=>by rw [List.mem_singleton.1 hu]; exact h2.cells.2) (AG (λu hu=>by rw [List.mem_singleton.1 hu]; rfl) (AG (λu hu=>by rw [List.mem_singleton.1 hu]; rfl) (AG (λu hu=>by rw [List.mem_singleton.1 hu]; exact h5.cells.2) (λu hu=>by rw [List.mem_singleton.1 hu]; exact h6.cells.2)))))
theorem Cr:BI DP:=λhl ⟨v,h0,h1⟩=>⟨v,h0,h1.le hl⟩
def Hs (x:Byt):Bool:=decide (x.length≤256)
def wtT (x:Byt):Nat:=9+x.length
structure MIn where
 kind:Int
 prev:Byt
 index:Nat
 issue:MIs
 peg:MPg
 wit:List Byt
def okW (l:List Byt):Bool:=decide (l.length≤16) && l.all Hs
def Fx (k:Int):Bool:=decide (1≤k) && decide (k≤2)
def E7 (i:MIn):Bool:=Fx i.kind && (C4 i.issue && ((if i.kind=2 then Hr i.peg else DL i.peg) && okW i.wit))
def Dr (i:MIn):Byt:=[CZ i.kind]++(i.prev++(nb 4 i.index++(Dq i.issue++((if i.kind=2 then F9 i.peg else [])++IR Er i.wit))))
def Dg (i:MIn):Nat:=1+(36+(DH i.issue+(EZ i.peg+(9+(i.wit.map wtT).sum))))
def EY:Ps MIn:=AJ CY λk=>AJ (BJ (Fx k)) λ_=>AJ (A_ 32) λp=>AJ (Bj 4) λx=>AJ Gq λi=>AJ (if k=2 then JI else BO zPG) λg=>AJ (Cz 16 (Bu 256)) λw=>BO ⟨k,p,x,i,g,w⟩
def CT (C:Rdr) (cs:List Value) (i:MIn):Prop:=∃ ci cg vw,cs=[.int .i64 i.kind]++((i.prev.map bv++[.int .u32 (i.index:Int)])++(ci++(cg++[vw])))∧i.prev.length=32∧i.index<4294967296∧D4 C ci i.issue∧D3 C cg i.peg∧LstR C 1 DP vw i.wit
theorem En:BI CT:=λhl ⟨ci,cg,vw,h0,h1,h2,h3,h4,h5⟩=>⟨ci,cg,vw,h0,h1,h2,Hw hl h3,LZ hl h4,LstR.le (rep:=DP) Cr hl h5⟩
theorem Px {C:Rdr} {cs:List Value} {t:MIn} (h:CT C cs t):cs.length=122:=by
 obtain ⟨ci,cg,vw,rfl,h1,h2,h3,h4,h5⟩:=h
 simp only [List.length_append,List.length_map,h1,Mk h3,Pw h4]; rfl
theorem MZ {C:Rdr} {cs:List Value} {t:MIn} (h:CT C cs t):∀ u∈cs,u.oneCell'=true:=by
 obtain ⟨ci,cg,vw,rfl,h1,h2,h3,h4,h5⟩:=h
 exact AG (λu hu=>by rw [List.mem_singleton.1 hu]; rfl) (AG (AG (Bw _) (λu hu=>by rw [List.mem_singleton.1 hu]; rfl)) (AG (Fv h3) (AG (PY h4) (λu hu=>by rw [List.mem_singleton.1 hu]; exact h5.cells.2))))
structure MTr where
 after:Nat
 ins:List MIn
 outs:List MOu
def Dx (t:MTr):Bool:=(decide (t.ins.length≤16) && t.ins.all E7) && (decide (t.outs.length≤16) && t.outs.all GO)
def Dp (t:MTr):Byt:=nb 8 t.after++(IR Dr t.ins++IR F_ t.outs)
def FJ (t:MTr):Nat:=8+((9+(t.ins.map Dg).sum)+(9+(t.outs.map Dv).sum))
def JH:Ps MTr:=AJ (Bj 8) λa=>AJ (Cz 16 EY) λi=>AJ (Cz 16 GM) λo=>BO ⟨a,i,o⟩
def Cy (C:Rdr) (cs:List Value) (t:MTr):Prop:=∃ vi vo,cs=[.int .u64 (t.after:Int)]++([vi]++[vo])∧t.after<18446744073709551616∧LstR C 122 CT vi t.ins∧LstR C 58 Cf vo t.outs
theorem GP:BI Cy:=λhl ⟨vi,vo,h0,h1,h2,h3⟩=>⟨vi,vo,h0,h1,LstR.le (rep:=CT) En hl h2,LstR.le (rep:=Cf) Em hl h3⟩
theorem Sh {C:Rdr} {cs:List Value} {t:MTr} (h:Cy C cs t):cs.length=3:=by obtain ⟨vi,vo,rfl,_⟩:=h; rfl
theorem MX {C:Rdr} {cs:List Value} {t:MTr} (h:Cy C cs t):∀ u∈cs,u.oneCell'=true:=by
 obtain ⟨vi,vo,rfl,h1,h2,h3⟩:=h
 exact AG (λu hu=>by rw [List.mem_singleton.1 hu]; rfl) (AG (λu hu=>by rw [List.mem_singleton.1 hu]; exact h2.cells.2) (λu hu=>by rw [List.mem_singleton.1 hu]; exact h3.cells.2))
theorem Mc {z:Int} (h:¬ (z=1∨z=2)):Fx z=false:=by
 cases hb:Fx z with
 | false=>rfl
 | true =>
  unfold Fx at hb
  rw [Bool.and_eq_true,decide_eq_true_eq,decide_eq_true_eq] at hb
  exact (h om).elim
theorem OP:DK 87 32 DC (λ_=>true) (λx=>x) (λ_=>32):=λw0 gc gw gx f bad s R b cs x hx _ hc hb hl w hw=>by
 obtain ⟨rfl,h1⟩:=hx
 exact ED w0 gc gw gx f bad s R b x h1 hc hb om w hw
section
variable {α:Type} {rep:Rdr→List Value→α→Prop} {ok:α→Bool} {enc:α→Byt} {wt:α→Nat}
theorem QL (hm:BI rep) (hp:DK 87 32 rep ok enc wt) (w0:Base) (gc gw g4 g7:Nat) (bad:Bool) (s:Slc) (R:AA) (b:Byt) (u:Value) (cs:List Value) (x:α) (h4:(g4,85,#[ptr gc])∈R) (h7:(g7,304,#[.func (.func 87) #[] #[]])∈R) (hx:rep (rdC w0 R) cs x) (hl:cs.length=32) (hb:BS s b) (hlen:b.length+wt x≤70368744170000) (w:World) (hw:St w0 w (CWS gc gw bad s R)) :
  AL 210 #[u,.agg cs.toArray,ptr g7,ptr g4] w (AQ w0 (WrC gc gw R (ok x) (enc x) (wt x) bad b)):=by
 refine Sy.enterT (args:=[u,.agg cs.toArray,ptr g7,ptr g4]) hw Tryz.func210 J kL<|sC<|sM 37 cs.toArray (λg5=>?_) kR (λw=>An J J kZ hl w)
 refine Sy.permS (List.Perm.of_eq eqCW)<|Sy.nil<|Sy.then_<|Sy.region<|sS (.func (.func 87) #[] #[]) (AH (R:=R++[(g5,37,cs.toArray)]) (Aj (inA h7)) Ar J ST)<|sS (ptr gc) (AH (R:=R++[(g5,37,cs.toArray)]) (Aj (inA h4)) Ar J CA)<|Sy.callT (λw hw=>hp w0.inn gc gw g5 0 bad s (R++[(g5,37,cs.toArray)]) b cs x (hm (B1 (λ_ h=>inA h)) hx) hl (FM CM) hb hlen w hw) (λv M hM=>?_)
 obtain ⟨s1,bad1,b1,h1,h2,rfl⟩:=hM
 refine Sy.nil ?_
 exact Sy.retT0 J (CWS gc gw bad1 s1 R) (λ_ h=>C1 h) (λ_=>⟨s1,bad1,b1,h1,h2,rfl⟩)
end
section
variable {α:Type} {rep:Rdr→List Value→α→Prop} {ok:α→Bool} {enc:α→Byt} {wt:α→Nat}
theorem Nn (hm:BI rep) (hp:DK 87 32 rep ok enc wt) (w0:Base) (gc gw g4 g7:Nat) (bad:Bool) (s:Slc) (R:AA) (b:Byt) (v:Value) (l:List α) (h4:(g4,85,#[ptr gc])∈R) (h7:(g7,304,#[.func (.func 87) #[] #[]])∈R) (hv:LstR (rdC w0 R) 32 rep v l) (hb:BS s b) (hlen:b.length+(9+(l.map wt).sum)≤70368744170000) (w:World) (hw:St w0 w (CWS gc gw bad s R)) :
  AL 209 #[ptr gw,v,.func (.func 210) #[] #[ptr g7,ptr g4]] w (AQ w0 (WrC gc gw R (l.all ok) (Af l.length++l.flatMap enc) (9+(l.map wt).sum) bad b)):=by
 obtain ⟨A,n,cp,rfl,h2,h3,h4',h5⟩:=hv
 have hmx:n<9223372036854775808:=by simp only [maxLen] at h4'; omega
 refine Sy.enterT (args:=[ptr gw,.slice A n cp,.func (.func 210) #[] #[ptr g7,ptr g4]]) hw Tryz.func209 J kL<|sC<|sp J<|sp J<|sP (.int .i64 (n:Int))<|sS (uZ (n:Int)) (Quiet.pure (λw=>Ce w _ _ _ n om J J))<|Sy.callT (λw hw=>Ev w0.inn gw s ((gc,134,#[ptr gw,.pointer none,.bool bad])::R) b n om hb om w (hw.perm permCW)) (λu M hM=>?_)
 obtain ⟨s1,hs1,rfl⟩:=hM
 have hn9:=Cj n
 refine Sy.permS permCW.symm<|Sy.nil<|sB<|sp J<|sP (.int .i64 (n:Int))<|sP (.int .i64 0)<|sG<|Sy.block ?_
 have hw0:Wrote true (Af n) 9 bad b bad (b++Af n):=Wrote.raw _ _ _ hn9
 have hsum:∀ i,((l.take i).map wt).sum≤(l.map wt).sum:=λi=>by
  have e:=congrArg (λz=>(z.map wt).sum) (List.take_append_drop i l)
  simp only [List.map_append,List.sum_append] at e
  omega
 refine Sy.loopT (Y:=Slc×Bool×Byt) n (λi y=>[(0,ptr gw),(2,.func (.func 210) #[] #[ptr g7,ptr g4]),(13,.slice A n cp),(14,.int .i64 (n:Int)),(15,.int .i64 (i:Int))]) (λi y=>CWS gc gw y.2.1 y.1 R) (λi y=>Wrote ((l.take i).all ok) (Af n++(l.take i).flatMap enc) (9+((l.take i).map wt).sum) bad b y.2.1 y.2.2∧BS y.1 y.2.2) (s1,bad,b++Af n) ⟨by
  have e:Wrote ((l.take 0).all ok) (Af n++(l.take 0).flatMap enc) (9+((l.take 0).map wt).sum) bad b bad (b++Af n):=by
   rw [List.take_zero]
   simpa using hw0
  exact e,hs1⟩ ac5 (λ_ h=>h) (λi y hi hy=>?_)
 obtain ⟨sy,bady,by_⟩:=y
 obtain ⟨hy,hsy⟩:=hy
 dsimp only at hy hsy ⊢
 refine sC ?_
 obtain ⟨b2,hb2⟩:=xE (decide (i<n))
 refine sS (.bool b2) (qls J J J hb2)<|sG<|Sy.seq ?_
 cases b2
 case' false =>
  have l2:=dN hb2
  obtain rfl:i=n:=om
  rw [List.take_of_length_le om] at hy
  refine sU<|Sy.exit<|Sy.then_exit<|Sy.then_exit<|Sy.in_exit ?_
  rw [h2]
  exact Sy.retT0 J (CWS gc gw bady sy R) (λ_ h=>h) (λ_=>⟨sy,bady,by_,hy,hsy,rfl⟩)
 have l2:=dY hb2
 obtain ⟨x,hx⟩:∃ x,l[i]? = some x:=⟨_,List.getElem?_eq_getElem om⟩
 obtain ⟨g,o,rfl,hq⟩:=h5 (by intro e; rw [e] at hx; cases hx)
 obtain ⟨cs,c1,c2,c3,c4⟩:=hq i x hx
 have htk:l.take (i+1)=l.take i++[x]:=by rw [List.take_add_one,hx]; rfl
 have hsi:=hsum (i+1)
 rw [htk] at hsi
 simp only [List.map_append,List.sum_append,List.map_cons,List.map_nil,List.sum_cons,List.sum_nil] at hsi
 refine sT<|Sy.skip<|Sy.then_<|Sy.seq<|Sy.block<|sC<|sS (.pointer (some ⟨g,o+i*32,none⟩)) (Quiet.pure (Bl 146 _ _ _ (some ⟨g,o,none⟩) g o n cp i 32 .i64 J J J J Ck kF l2))<|sS (.agg cs.toArray) (Bd (R:=R) c4 Ar c1 J DI)<|sM 37 (Z32).toArray (λg9=>?_)
 refine Sy.permS (List.Perm.of_eq eqCW)<|Sy.permS (List.perm_append_comm (l₁:=CWS gc gw bady sy R) (l₂:=[(g9,37,(Z32).toArray)]) |> λh=>(List.Perm.of_eq eqCW.symm).trans h)<|sw 0 J cs.toArray (Writes.row 37 cs 32 _ _ J kR kR kR c1 kZ c2)<|Sy.permS ((List.perm_append_comm (l₁:=[(g9,37,cs.toArray)]) (l₂:=CWS gc gw bady sy R)).trans (List.Perm.of_eq eqCW))<|Sy.nil<|Sy.then_<|Sy.region<|sp J<|sp J<|sS (.agg cs.toArray) (Bd (R:=R++[(g9,37,cs.toArray)]) (FM CM) Ar c1 J DI)<|Sy.callT (λw hw=>QL (rep:=rep) (ok:=ok) (enc:=enc) (wt:=wt) hm hp w0.inn gc gw g4 g7 bady sy (R++[(g9,37,cs.toArray)]) by_ (ptr gw) cs x (inA h4) (inA h7) (hm (B1 (λ_ h=>inA h)) c3) c1 hsy (by have hyl:=hy.len; omega) w hw) (λv M hM=>?_)
 obtain ⟨s3,bad3,b3,q1,q2,rfl⟩:=hM
 refine Sy.nil<|Sy.in_<|Sy.then_<|Sy.region<|sS (iZ (i+1)) (qad J J J)<|sp J<|Sy.nil ?_
 have hW:=hy.then_ q1
 have hW':Wrote ((l.take (i+1)).all ok) (Af n++(l.take (i+1)).flatMap enc) (9+((l.take (i+1)).map wt).sum) bad b bad3 b3:=by
  rw [htk]
  simp only [List.all_append,List.flatMap_append,List.map_append,List.sum_append,List.all_cons,List.all_nil,List.flatMap_cons,List.flatMap_nil,List.map_cons,List.map_nil,List.sum_cons,List.sum_nil,Bool.and_true,List.append_nil,Nat.add_zero, ← List.append_assoc, ← Nat.add_assoc]
  simpa only [List.append_assoc,Nat.add_assoc] using hW
 exact Sy.againT (s3,bad3,b3) l2 ⟨hW',q2⟩ ac5 (λw h=>C1 h)
theorem Ld (hm:BI rep) (hp:DK 87 32 rep ok enc wt) (w0:Base) (gc gw gx f most:Nat) (hmo:most<1000000) (bad:Bool) (s:Slc) (R:AA) (b:Byt) (v:Value) (l:List α) (hv:LstR (rdC w0 R) 32 rep v l) (hc:rdC w0 R gx f v) (hb:BS s b) (hlen:b.length+(9+(l.map wt).sum)≤70368744170000) (w:World) (hw:St w0 w (CWS gc gw bad s R)) :
  AL 169 #[ptr gc,pT gx f,.int .i64 (most:Int),.func (.func 87) #[] #[]] w (AQ w0 (WrC gc gw R (decide (l.length≤most) && l.all ok) (Af l.length++l.flatMap enc) (9+(l.map wt).sum) bad b)):=by
 have hv0:=hv
 obtain ⟨A,n,cp,rfl,h2,h3,h4',h5⟩:=hv
 refine Sy.enterT (args:=[ptr gc,pT gx f,.int .i64 (most:Int),.func (.func 87) #[] #[]]) hw Tryz.func169 J kL<|sC<|sM 85 #[ptr gc] (λg4=>?_)
 refine Sy.permS (List.Perm.of_eq eqCW)<|sM 304 #[.func (.func 87) #[] #[]] (λg7=>?_)
 refine Sy.permS (List.Perm.of_eq eqCW) ?_
 obtain ⟨R1,hR1⟩:=xE (R++[(g4,85,#[ptr gc])]++[(g7,304,#[.func (.func 87) #[] #[]])])
 rw [← hR1]
 have m4:(g4,85,#[ptr gc])∈R1:=by rw [hR1]; exact inA CM
 have m7:(g7,304,#[.func (.func 87) #[] #[]])∈R1:=by rw [hR1]; exact CM
 have mR:∀ x∈R,x∈R1:=λx hx=>by rw [hR1]; exact inA (inA hx)
 have hv1:LstR (rdC w0 R1) 32 rep (.slice A n cp) l:=LstR.le (rep:=rep) hm (B1 mR) hv0
 have hc1:rdC w0 R1 gx f (.slice A n cp):=B1 mR _ _ _ hc
 have back:∀ {w:World} {bad':Bool} {s':Slc},St w0 w (CWS gc gw bad' s' R1)→St w0 w (CWS gc gw bad' s' R):=λh=>by
  rw [hR1,List.append_assoc] at h
  exact C1 h
 refine sG<|Sy.seq<|sC<|sS (ptr gc) (AH (R:=R1) (Aj m4) Ar J CA)<|sS (.bool false) (qg (λw hw=>CX w0.inn gc _ _ (List.mem_cons_self ..) w hw))<|sG<|sU<|Sy.skip ?_
 obtain ⟨b1,hb1⟩:=xE (decide (n≤most))
 refine sR (λj=>j == 7) ?_
 refine sD 0 J (ptr gc) (AH (R:=R1) (Aj m4) Ar J CA)<|sa 1 J J<|sa 2 J J<|se 3 [4,6,7] rfl (.slice A n cp) (AH (R:=R1) hc1 Ar J Ck)<|sb 4 J (.int .i64 (n:Int))<|sa 5 J J<|sv 6 J (.bool b1) (AD .leq _ _ _ .i64 _ _ _ J J J (C' _ _ _ _ _ (by rw [hb1]; exact decide_eq_decide.2 om)))<|Sy.soleD 7 J (λQ2 hq2=>?_)
 refine Sy.callT (λw hw=>Bt w0.inn gc gw bad b1 s R1 w hw) (λu M hM=>?_)
 subst hM
 refine hq2 _ _<|sE ?_
 obtain ⟨bad1,hbad1⟩:=xE ((bad || !b1))
 rw [← hbad1]
 refine sB<|sS (ptr gc) (AH (R:=R1) (Aj m4) Ar J CA)<|sp J<|sP (pT gc 2)<|sS (.bool bad1) (qc 0 2 J J uy4)<|sP (.bool (!bad1))<|sG ?_
 cases bad1
 ·have hb1t:bad=false∧b1=true:=by cases bad <;> cases b1 <;> first | exact ⟨rfl,rfl⟩ | cases hbad1
  obtain ⟨rfl,rfl⟩:=hb1t
  have e1:decide (l.length≤most)=true:=by rw [h2, ← hb1]
  rw [e1,Bool.true_and]
  refine sT<|Sy.regionD (λj=>j == 8) kR<|se 0 [1,2,3,8] rfl (ptr gc) (AH (R:=R1) (Aj m4) Ar J CA)<|sa 1 J J<|sb 2 J (pT gc 0)<|sD 3 J (ptr gw) (qc 0 0 J J D0)<|sa 4 J J<|sa 5 J J<|sD 6 J (.slice A n cp) (AH (R:=R1) hc1 Ar J Ck)<|sb 7 J (.func (.func 210) #[] #[ptr g7,ptr g4])<|Sy.soleD 8 J (λQ2 hq2=>?_)
  refine Sy.callT (λw hw=>Nn (rep:=rep) hm hp w0.inn gc gw g4 g7 false s R1 b (.slice A n cp) l m4 m7 hv1 hb hlen w hw) (λu M hM=>?_)
  obtain ⟨s1,bad2,b2,q1,q2,rfl⟩:=hM
  refine hq2 _ _<|sE ?_
  exact Sy.retT0 J (CWS gc gw bad2 s1 R) (λ_ h=>back h) (λ_=>⟨s1,bad2,b2,q1,q2,rfl⟩)
 ·refine sU<|Sy.skip ?_
  have e1:true=(bad || !(decide (l.length≤most) && l.all ok)):=by
   rw [h2, ← hb1]
   cases bad
   ·cases b1
    ·rfl
    ·cases hbad1
   ·rfl
  exact Sy.retT0 J (CWS gc gw true s R) (λ_ h=>back h) (λ_=>⟨s,true,b,⟨e1,λh=>(by cases h),by omega⟩,hb,rfl⟩)
end
section
variable {α:Type} {rep:Rdr→List Value→α→Prop} {p:Ps α}
theorem QP (hm:BI rep) (hp:B4 87 32 ((Z32)) rep p) (w0:Base) (gc gr g4 g7:Nat) (sl:Value) (s:RS) (R S:AA) (hS:∀ b∈S,b∈R) (h4:(g4,85,#[ptr gc])∈R) (h7:(g7,304,#[.func (.func 87) #[] #[]])∈R) (he:s.e≤200) (hl:s.rest.length≤70368744177664) (hv:BytR (rdC w0 S) sl s.rest) (u:Value) (w:World) (hw:St w0 w (CRN gc gr sl s.e R)) :
  AL 208 #[u,ptr g7,ptr g4] w (AQ w0 (RdV 32 rep p w0 gc gr s R S)):=by
 refine Sy.enterT (args:=[u,ptr g7,ptr g4]) hw Tryz.func208 J kL<|sC<|sM 37 ((Z32)).toArray (λga=>?_)
 refine sA<|sM 37 ((Z32)).toArray (λgb=>?_)
 refine Sy.permS (M:=CRS gc gr gb 37 ([]++(((Z32))++[])) sl s.e ((ga,37,((Z32)).toArray)::R)) JO<|sA<|sS (.func (.func 87) #[] #[]) (AH (R:=(ga,37,((Z32)).toArray)::R) (Aj (List.mem_cons_of_mem _ h7)) Dh J ST)<|sS (ptr gc) (AH (R:=(ga,37,((Z32)).toArray)::R) (Aj (List.mem_cons_of_mem _ h4)) Dh J CA)<|Sy.callT (λw hw=>hp w0.inn gc gr gb 0 37 [] [] sl s ((ga,37,((Z32)).toArray)::R) S (λb h=>List.mem_cons_of_mem _ (hS b h)) J he hl hv w hw) (λv M hM=>?_)
 obtain ⟨x,s',sl',cs,N,q1,q2,q3,q4,q5,q6,q7,rfl⟩:=hM
 rw [List.append_nil]
 refine sA<|sS (.agg cs.toArray) (Quiet.mid 1 gb 0 32 37 37 cs cs _ _ J kR J DI J kR (by rw [List.drop_zero,List.take_of_length_le om]) om)<|sw 3 J cs.toArray (Writes.row 37 cs 32 _ _ J kR kR kR q2 kZ q3)<|sG<|Sy.ret ?_
 exact Sy.retT1 (CRN gc gr sl' s'.e (R++N)) J (.inl (Sy.Res.cell (ty':=37) ga 3 cs.toArray _ kZ J DI J (by rw [List.size_toArray,q2]; kernel_rfl) rfl)) (λw h=>h.less (((List.Sublist.refl _).cons _ |>.cons_cons _).cons _ |>.cons_cons _)) ⟨x,s',sl',cs,N,q1,q2,q3,q4,rfl,q5,q6,q7,rfl⟩
theorem Ka (w:World) (gr most g4 g7:Nat):AL 238 #[ptr gr,.int .i64 (most:Int),.func (.func 208) #[] #[ptr g7,ptr g4]] w (A0 w (λv M=>∃ a b c,v=.func (.func 266) #[] #[ptr a,ptr b,ptr c]∧M=[(a,132,#[ptr gr]),(b,3,#[.int .i64 (most:Int)]),(c,351,#[.func (.func 208) #[] #[ptr g7,ptr g4]])])):=by
 refine Sy.enter (args:=[ptr gr,.int .i64 (most:Int),.func (.func 208) #[] #[ptr g7,ptr g4]]) Tryz.func238 J kL<|sC<|sM 132 #[ptr gr] (λa=>?_)
 refine sM 3 #[.int .i64 (most:Int)] (λb=>?_)
 refine sM 351 #[.func (.func 208) #[] #[ptr g7,ptr g4]] (λc=>?_)
 refine sP .nilFunc<|sA<|sP (.func (.func 266) #[] #[ptr a,ptr b,ptr c])<|sp J<|sG<|Sy.ret ?_
 exact Sy.retGM _ J (.inl (show _=_ by kernel_rfl)) (λ_ h=>h) ⟨a,b,c,rfl,rfl⟩
noncomputable def Rx:TypeInfo:=(Tryz.prog.info? 37).getD default
theorem EB:Tryz.prog.info? 37=some Rx:=kZ
def ND (p:Ps α) (rep:Rdr→List Value→α→Prop) (w0:Base) (S:AA) (m:Nat) (s1:RS) (v:Nat×List Value) (y:YL α):Prop:=∃ x,y.x=some x∧y.l.length=v.1∧RowsOk 37 32 rep y.r y.N y.l∧rep (rdB y.N) v.2 x∧v.2.length=32∧(∀ u∈v.2,u.oneCell'=true)∧v.1<1000000
def Jr (rep:Rdr→List Value→α→Prop) (y y':YL α):Prop:=∃ x r',y.x=some x∧RowsOk 37 32 rep r' y.N (y.l++[x])∧y'={ y with l:=y.l++[x],r:=r',x:=none }
theorem Ln (hm:BI rep) (hp:B4 87 32 ((Z32)) rep p) (w0:Base) (fz:World) (gc gr gl g4 g7 a b c most:Nat) (hmost:most<1000000) (R S:AA) (s0:RS) (sl0:Value) (hS:∀ x∈S,x∈R) (h4:(g4,85,#[ptr gc])∈R) (h7:(g7,304,#[.func (.func 87) #[] #[]])∈R) (ha:(a,132,#[ptr gr])∈R) (hb:(b,3,#[.int .i64 (most:Int)])∈R) (hc:(c,351,#[.func (.func 208) #[] #[ptr g7,ptr g4]])∈R) (he:s0.e≤200) (hl:s0.rest.length≤70368744177664) (hv:BytR (rdC w0 S) sl0 s0.rest) (lp:Nat) (w:World) (hw:St (ib w0.world fz) w (LBL gc gr gl 146 nilS s0.e sl0 R []))
  (hY:∀ (v:Nat×List Value) (y:YL α) (W:World),(ND p rep w0 S 0 s0 v y)→St (ib w0.world fz) W (LBL gc gr gl 146 y.r y.s.e y.sl R y.N)→YieldAt Fence.wide 7 Tryz.prog lp #[.int .i64 (v.1:Int),.agg v.2.toArray] W (Fb w0.world fz (Jr rep y) (λy=>LBL gc gr gl 146 y.r y.s.e y.sl R y.N))) :
  CallsIn Fence.wide 8 Tryz.prog 266 #[.func (.yield lp) #[] #[],ptr a,ptr b,ptr c] w (Iw w0.world fz (λy:YL α=>∃ m s1,After (Dw most) s0 m s1∧s1.rest.length≤s0.rest.length∧y.l.length≤most∧InvL 37 32 rep p w0 S m s1 y.l.length y∧(y.s.e=0→y.l.length=m)) (λy=>LBL gc gr gl 146 y.r y.s.e y.sl R y.N)):=by
 refine Sy.enterI (args:=[.func (.yield lp) #[] #[],ptr a,ptr b,ptr c]) hw Tryz.func266 J kL<|sC<|sS (ptr gr) (AH (R:=R) (Aj ha) BH J BD)<|sS (.int .i64 (most:Int)) (AH (R:=R) (Aj hb) BH J uy3)<|Sy.callT (λw hw=>EH (ib w0.world fz) gr sl0 s0 ((gc,134,#[.pointer none,ptr gr,.bool false])::(gl,146,#[.slice none 0 0])::(R++[])) S (λx h=>List.mem_cons_of_mem _ (List.mem_cons_of_mem _ (List.mem_append_left _ (hS x h)))) most hmost he hv w (hw.perm swap12)) (λu M hM=>?_)
 obtain ⟨m,s1,sl1,hA1,⟨rfl,hm1⟩,hs1e,hs1r,hs1b,rfl⟩:=hM
 refine Sy.permS (M:=LBL gc gr gl 146 nilS s1.e sl1 R []) swap12.symm<|sp J<|sA<|sP (.int .i64 0)<|sG<|Sy.block<|Sy.loopT (Y:=YL α) m (λi y=>[(0,.func (.yield lp) #[] #[]),(1,ptr a),(2,ptr b),(3,ptr c),(5,.int .i64 (m:Int)),(6,.int .i64 (i:Int))]) (λi y=>LBL gc gr gl 146 y.r y.s.e y.sl R y.N) (λi y=>InvL 37 32 rep p w0 S m s1 i y) ⟨[],nilS,s1,sl1,[],none⟩ ⟨rfl,RowsOk.nil,λh=>⟨h,rfl⟩,λh=>.inl h,hs1e,Nat.le_refl _,hs1b⟩ ac6 (λ_ h=>h) (λi y hi hy=>?_)
 obtain ⟨l,r,s,sl,N,xo⟩:=y
 have hylen:l.length=i:=hy.len
 refine Sy.seq<|sC ?_
 obtain ⟨b1,hb1⟩:=xE (decide (i<m))
 refine sp J<|sp J<|sS (.bool b1) (qls J J J hb1)<|sp J ?_
 cases b1
 case' false =>
  have l1:=dN hb1
  obtain rfl:i=m:=om
  refine sN<|sN<|sN<|sP (.bool false)<|sG<|sU<|Sy.exit<|Sy.then_exit<|Sy.then_exit<|Sy.in_exit ?_
  exact Sy.retI J (λv w h=>⟨⟨_,rfl⟩,⟨l,r,s,sl,N,xo⟩,⟨i,s1,hA1,hs1r,by show l.length≤most; omega,by rw [show (⟨l,r,s,sl,N,xo⟩:YL α).l.length=i from hylen]; exact hy,λ_=>hylen⟩,h⟩) (.inr J)
 have l1:=dY hb1
 obtain ⟨b2,hb2⟩:=xE (decide (s.e=0))
 have hse:s.e≤200:=hy.e
 refine sS (ptr gr) (AH (R:=R) (Aj ha) BH J BD)<|sS (.int .i64 (s.e:Int)) (qg (λw hw=>Bc (ib w0.world fz) gr sl s.e [] (List.mem_cons_of_mem _ (List.mem_cons_self ..)) w hw))<|sS (.bool b2) (qeq J J J hb2)<|sP (.bool b2)<|sG ?_
 cases b2
 case' false =>
  have l2:=dN hb2
  refine sU<|Sy.exit<|Sy.then_exit<|Sy.then_exit<|Sy.in_exit ?_
  exact Sy.retI J (λv w h=>⟨⟨_,rfl⟩,⟨l,r,s,sl,N,xo⟩,⟨m,s1,hA1,hs1r,by show l.length≤most; omega,by rw [show (⟨l,r,s,sl,N,xo⟩:YL α).l.length=i from hylen]; exact hy,λh=>(l2 h).elim⟩,h⟩) (.inr J)
 have l2:=dY hb2
 obtain ⟨hs10,hrep⟩:=hy.yes l2
 refine sT<|Sy.skip<|Sy.then_<|Sy.seq<|Sy.block<|sC<|sS (.func (.func 208) #[] #[ptr g7,ptr g4]) (AH (R:=R) (Aj hc) BH J Tt)<|sS (ptr gr) (AH (R:=R) (Aj ha) BH J BD)<|Sy.callT (λw hw=>QP (rep:=rep) (p:=p) hm hp (ib w0.world fz) gc gr g4 g7 sl s ((gl,146,#[r.v])::(r.bl++(R++N))) S (λx h=>List.mem_cons_of_mem _ (List.mem_append_right _ (List.mem_append_left _ (hS x h)))) (List.mem_cons_of_mem _ (List.mem_append_right _ (List.mem_append_left _ h4))) (List.mem_cons_of_mem _ (List.mem_append_right _ (List.mem_append_left _ h7))) hse (Nat.le_trans (Nat.le_trans hy.rest hs1r) hl) hy.byt (ptr gr) w hw) (λu M hM=>?_)
 obtain ⟨x,s',sl',cs,N1,q1,q2,q3,q4,rfl,q5,q6,q7,rfl⟩:=hM
 obtain ⟨st1,st2⟩:=Eh hrep l2 q1
 refine sM 37 ((Z32)).toArray (λgb=>?_)
 refine Sy.permS (M:=(gb,37,((Z32)).toArray)::LBL gc gr gl 146 r s'.e sl' R (N++N1)) ((List.perm_append_comm (l₂:=[(gb,37,((Z32)).toArray)])).trans (List.Perm.cons _ (List.Perm.of_eq (by simp only [List.cons_append,List.append_assoc,List.nil_append]; rfl))))<|sw 0 J cs.toArray (Writes.row 37 cs 32 _ _ J kR kR kR q2 kZ q3)<|Sy.nil<|Sy.then_ ?_
 have hR2:RowsOk 37 32 rep r (N++N1) l:=RowsOk.more (rep:=rep) hm hy.rows (λb h=>List.mem_append_left _ h)
 have hx2:rep (rdB (N++N1)) cs x:=hm (Ac λb h=>List.mem_append_right _ h) q4
 have drop1:∀ {w:World},St (ib w0.world fz) w ((gb,37,cs.toArray)::LBL gc gr gl 146 r s'.e sl' R (N++N1))→St (ib w0.world fz) w (LBL gc gr gl 146 r s'.e sl' R (N++N1)):=λh=>h.less (List.sublist_cons_self _ _)
 obtain ⟨b3,hb3⟩:=xE (decide (s'.e≠0))
 have inl:∀ b∈R,b∈(gb,37,cs.toArray)::LBL gc gr gl 146 r s'.e sl' R (N++N1):=λb h=>List.mem_cons_of_mem _ (BH b h)
 refine Sy.seq ?_
 cases b3
 case' true =>
  have l3:=dY hb3
  refine Sy.region<|sS (ptr gr) (AH (R:=R) (Aj ha) inl J BD)<|sS (.int .i64 (s'.e:Int)) (qg (λw hw=>Bc (ib w0.world fz) gr sl' s'.e [] (List.mem_cons_of_mem _ (List.mem_cons_of_mem _ (List.mem_cons_self ..))) w hw))<|sS (.bool true) (qne J J J hb3)<|sp J<|sN<|sN<|sN<|sN<|sN<|sP (.bool true)<|sG<|sT<|Sy.ret<|Sy.in_ret<|Sy.then_ret<|Sy.then_ret<|Sy.in_ret ?_
  exact Sy.retI J (λv w h=>⟨⟨_,rfl⟩,⟨l,r,s',sl',N++N1,none⟩,⟨m,s1,hA1,hs1r,by show l.length≤most; omega,⟨rfl,hR2,λh=>(l3 h).elim,λ_=>.inr (st2 l3 m l1),q5,Nat.le_trans q6 hy.rest,q7⟩,λh=>(l3 h).elim⟩,drop1 h⟩) (.inl J)
 have l3:s'.e=0:=Decidable.of_not_not (of_decide_eq_false hb3.symm)
 refine Sy.regionI 7 (by rintro ⟨_,_,⟨_,hv⟩,_⟩; cases hv) kR<|sS (ptr gr) (AH (R:=R) (Aj ha) inl rfl BD)<|sS (.int .i64 (s'.e:Int)) (qg (λw hw=>Bc (ib w0.world fz) gr sl' s'.e [] (List.mem_cons_of_mem _ (List.mem_cons_of_mem _ (List.mem_cons_self ..))) w hw))<|sS (.bool false) (qne rfl rfl rfl hb3)<|sp rfl<|sp rfl<|sp rfl<|sS (.agg cs.toArray) (Quiet.mid 0 gb 0 32 37 37 cs cs _ _ rfl kR rfl DI rfl kR (by rw [List.drop_zero,List.take_of_length_le om]) om)<|Sy.nil<|Sy.yieldI (HR:=Jr rep ⟨l,r,s',sl',N++N1,some x⟩) (LR:=λy=>LBL gc gr gl 146 y.r y.s.e y.sl R y.N) rfl (by rintro ⟨_,_,⟨_,hv⟩,_⟩; cases hv) kR kR lp #[.int .i64 (i:Int),.agg cs.toArray] kF (λw hw=>hY (i,cs) ⟨l,r,s',sl',N++N1,some x⟩ w ⟨x,rfl,hylen,hR2,hx2,q2,q3,by show i<1000000; omega⟩ (drop1 hw)) (λy' hy'=>?_)
 obtain ⟨x',r',hx',hr',rfl⟩:=hy'
 obtain rfl:x=x':=by injection hx'
 refine sP (.bool false)<|sP (.bool false)<|sG<|sU<|Sy.skip<|Sy.in_<|Sy.then_<|Sy.region<|sp J<|sS (iZ (i+1)) (qad J J J)<|sp J<|Sy.nil ?_
 exact Sy.againT ⟨l++[x],r',s',sl',N++N1,none⟩ l1 ⟨by simp [hylen],hr',λ_=>⟨hs10,st1 l3⟩,λh=>(h l3).elim,q5,Nat.le_trans q6 hy.rest,q7⟩ ac6 (λw h=>h)
theorem KV (hm:BI rep) (hp:B4 87 32 ((Z32)) rep p) (w0:Base) (gc gr g4 g7 most:Nat) (hmost:most<1000000) (sl0:Value) (s0:RS) (R S:AA) (hS:∀ x∈S,x∈R) (h4:(g4,85,#[ptr gc])∈R) (h7:(g7,304,#[.func (.func 87) #[] #[]])∈R) (he:s0.e≤200) (hl:s0.rest.length≤70368744177664) (hv:BytR (rdC w0 S) sl0 s0.rest) (w:World) (hw:St w0 w (CRN gc gr sl0 s0.e R)) :
  AL 207 #[ptr gr,.int .i64 (most:Int),.func (.func 208) #[] #[ptr g7,ptr g4]] w (AQ w0 (RdL 32 rep (Cz most p) w0 gc gr s0 R S)):=by
 refine Sy.enterTM (args:=[ptr gr,.int .i64 (most:Int),.func (.func 208) #[] #[ptr g7,ptr g4]]) hw Tryz.func207 J kL<|sC<|sP (.slice none 0 0)<|sA<|sM 146 #[.slice none 0 0] (λgl=>?_)
 refine sG<|Sy.seq<|sC<|sp J<|sp J<|sp J<|Sy.callN kR 238 #[ptr gr,.int .i64 (most:Int),.func (.func 208) #[] #[ptr g7,ptr g4]] kF _ (λw _=>Ka w gr most g4 g7) (λv M hM=>?_)
 obtain ⟨a,b,c,rfl,rfl⟩:=hM
 refine Sy.nil<|Sy.then_<|Sy.block ?_
 obtain ⟨R1,hR1⟩:=xE (R++[(a,132,#[ptr gr]),(b,3,#[.int .i64 (most:Int)]),(c,351,#[.func (.func 208) #[] #[ptr g7,ptr g4]])])
 refine Sy.permC (M:=LBL gc gr gl 146 nilS s0.e sl0 R1 []) (by rw [hR1]; exact Hn) ?_
 have mR:∀ x∈R,x∈R1:=λx hx=>by rw [hR1]; exact List.mem_append_left _ hx
 have ma:(a,132,#[ptr gr])∈R1:=by rw [hR1]; simp
 have mb:(b,3,#[.int .i64 (most:Int)])∈R1:=by rw [hR1]; simp
 have mc:(c,351,#[.func (.func 208) #[] #[ptr g7,ptr g4]])∈R1:=by rw [hR1]; simp
 refine Sy.rangeT (α:=Nat×List Value) (Y:=YL α) (Z:=Nat) 266 #[ptr a,ptr b,ptr c] kR kR (enters_of Tryz.func266 kR J) (λv=>#[.int .i64 (v.1:Int),.agg v.2.toArray]) (λ_=>rfl) dZ
  (ND p rep w0 S 0 s0) (λ_ y=>LBL gc gr gl 146 y.r y.s.e y.sl R1 y.N) (λ_ _ z=>[(7,ptr gl),(9,ptr z)]) (λv y z=>(z,37,v.2.toArray)::LBL gc gr gl 146 y.r y.s.e y.sl R1 y.N) (λ_ y=>Jr rep y) (λy=>LBL gc gr gl 146 y.r y.s.e y.sl R1 y.N)
  (λy:YL α=>∃ m s1,After (Dw most) s0 m s1∧s1.rest.length≤s0.rest.length∧y.l.length≤most∧InvL 37 32 rep p w0 S m s1 y.l.length y∧(y.s.e=0→y.l.length=m)) (λy=>LBL gc gr gl 146 y.r y.s.e y.sl R1 y.N) ?_ ?_ ?_ ?_
 ·exact λlp fz w hw hY=>Ln (rep:=rep) (p:=p) hm hp w0 fz gc gr gl g4 g7 a b c most hmost R1 S s0 sl0 (λx h=>mR x (hS x h)) (mR _ h4) (mR _ h7) ma mb mc he hl hv lp w hw hY
 ·rintro lp fz ⟨i,cs⟩ ⟨l,r,s,sl,N,xo⟩ ⟨x,rfl,_,_,_,c1,c2,_⟩
  dsimp only at c1 c2 ⊢
  refine Sy.regionR (by rintro ⟨_,_,h⟩; exact h) kR ⟨_,rfl⟩<|sM 37 ((Z32)).toArray (λz=>?_)
  refine Sy.permS (M:=(z,37,((Z32)).toArray)::LBL gc gr gl 146 r s.e sl R1 N) (List.perm_append_comm (l₂:=[(z,37,((Z32)).toArray)]))<|sw 0 J cs.toArray (Writes.row 37 cs 32 _ _ J kR kR kR c1 kZ c2)<|Sy.nil ?_
  exact apZ z ac2 (λ_ h=>h)
 ·rintro lp fz ⟨i,cs⟩ ⟨l,r,s,sl,N,xo⟩ z ⟨x,rfl,hli,⟨xs,x1,x2,x3⟩,hx,c1,c2,hi⟩
  dsimp only at c1 c2 hli x1 x2 x3 hx hi ⊢
  refine Sy.block<|Sy.regionR (by rintro ⟨_,_,h⟩; exact h) kR ⟨_,rfl⟩<|sS r.v (qc 3 0 rfl rfl Ck)<|sS (.agg cs.toArray) (Quiet.mid 0 z 0 32 37 37 cs cs _ _ rfl kR rfl DI rfl kR (by rw [List.drop_zero,List.take_of_length_le om]) om)<|Sy.make kR 37 cs.toArray (λg=>.slice (pA g) 1 1) (Makes.one 146 37 _ _ 32 _ cs rfl kR Ck EB rfl rfl c1 dZ dZ) (λg8=>?_)
  refine Sy.permS (M:=[(z,37,cs.toArray),(gc,134,#[.pointer none,ptr gr,.bool false]),(gr,253,#[sl,.int .i64 (s.e:Int)]),(gl,146,#[r.v]),(g8,37,cs.toArray)]++(r.bl++(R1++N))) (Sy.flat_perm (ls:=[[(z,37,cs.toArray),(gc,134,#[.pointer none,ptr gr,.bool false]),(gr,253,#[sl,.int .i64 (s.e:Int)]),(gl,146,#[r.v])],r.bl++(R1++N),[(g8,37,cs.toArray)]]) (ms:=[[(z,37,cs.toArray),(gc,134,#[.pointer none,ptr gr,.bool false]),(gr,253,#[sl,.int .i64 (s.e:Int)]),(gl,146,#[r.v])],[(g8,37,cs.toArray)],r.bl++(R1++N)]) [0,2,1] kZ (by rfl) (by simp) (by simp))<|Sy.appendR kR 146 37 _ _ 32 32 Ck EB J J J J dZ _ _ J x1 kR cs c1 c2 4 g8 37 kR kR om (by simp only [maxLen]; omega) (λr' hr'=>?_)
  refine sw 3 J #[r'.v] (Writes.one 0 146 r'.v _ _ J kR kR kR hr'.cells.1 hr'.cells.2 Nat.zero_lt_one kR)<|Sy.setT<|Sy.nil<|Sy.in_ ?_
  exact bpZ ⟨l++[x],r',s,sl,N,none⟩ ⟨x,r',rfl,RowsOk.add (rep:=rep) x2 x3 hr' hx,rfl⟩ (λw h=>Sy.St.parts (ls:=[[(z,37,cs.toArray)],[(gc,134,#[.pointer none,ptr gr,.bool false]),(gr,253,#[sl,.int .i64 (s.e:Int)]),(gl,146,#[r'.v])],[(g8,37,cs.toArray)],r'.bl++(R1++N)]) (ms:=[[(gc,134,#[.pointer none,ptr gr,.bool false]),(gr,253,#[sl,.int .i64 (s.e:Int)]),(gl,146,#[r'.v])],r'.bl++(R1++N)]) [[(z,37,cs.toArray)],[(g8,37,cs.toArray)]] [1,3,0,2] kZ (by rfl) (by simp) (by simp) h)
 ·rintro D fz ⟨l,r,s,sl,N,xo⟩ ⟨m,s1,hA1,hs1,hlm,hI,hdn⟩ hD hD2 hmk h0
  dsimp only at hI hdn hlm ⊢
  have hse:s.e≤200:=hI.e
  have hrest:s.rest.length≤s0.rest.length:=Nat.le_trans hI.rest hs1
  refine Sy.in_<|Sy.then_<|Sy.seq<|sC ?_
  obtain ⟨b1,hb1⟩:=xE (decide (s.e≠0))
  refine sp J<|sS (.int .i64 (s.e:Int)) (qg (λw hw=>Bc (ab w0.world fz D) gr sl s.e [] (List.mem_cons_of_mem _ (List.mem_cons_self ..)) w hw))<|sS (.bool b1) (qne J J J hb1)<|sG ?_
  cases b1
  ·have l1:s.e=0:=Decidable.of_not_not (of_decide_eq_false hb1.symm)
   obtain ⟨z1,z2⟩:=hI.yes l1
   rw [hdn l1] at z2
   refine sU<|Sy.skip<|sB<|sS r.v (qc 2 0 J J Ck)<|sp J<|sG<|Sy.ret<|Sy.retTM1 (b0:=w0) (M:=CRN gc gr sl s.e (R++(N++r.bl))) J (.inl (show _=_ by kernel_rfl)) (λw h=>Sy.St.parts (ls:=[[(gc,134,#[.pointer none,ptr gr,.bool false]),(gr,253,#[sl,.int .i64 (s.e:Int)])],[(gl,146,#[r.v])],r.bl,R,[(a,132,#[ptr gr]),(b,3,#[.int .i64 (most:Int)]),(c,351,#[.func (.func 208) #[] #[ptr g7,ptr g4]])],N]) (ms:=[[(gc,134,#[.pointer none,ptr gr,.bool false]),(gr,253,#[sl,.int .i64 (s.e:Int)])],R,N,r.bl]) [[(gl,146,#[r.v])],[(a,132,#[ptr gr]),(b,3,#[.int .i64 (most:Int)]),(c,351,#[.func (.func 208) #[] #[ptr g7,ptr g4]])]] [0,3,5,2,1,4] kZ (by rfl) (by rw [hR1]; simp) (by simp) h) ⟨l,s,sl,N++r.bl,hA1.bind ⟨λh=>(h z1).elim,λy q _ hy=>?_,λ_ hy=>?_⟩,RowsOk.lst (rep:=rep) hm hI.rows,hse,hrest,hI.byt,rfl⟩ hD hD2 hmk h0.out
   ·rw [z2] at hy
    cases hy
    exact ⟨rfl,by rw [← l1]⟩
   ·rw [z2] at hy; cases hy
  ·have l1:=dY hb1
   refine sT<|sC<|sP (.slice none 0 0)<|sG<|Sy.ret<|Sy.then_ret<|Sy.retTM1 (b0:=w0) (M:=CRN gc gr sl s.e (R++[])) J (.inl (show _=_ by kernel_rfl)) (λw h=>Sy.St.parts (ls:=[[(gc,134,#[.pointer none,ptr gr,.bool false]),(gr,253,#[sl,.int .i64 (s.e:Int)])],[(gl,146,#[r.v])],r.bl,R,[(a,132,#[ptr gr]),(b,3,#[.int .i64 (most:Int)]),(c,351,#[.func (.func 208) #[] #[ptr g7,ptr g4]])],N]) (ms:=[[(gc,134,#[.pointer none,ptr gr,.bool false]),(gr,253,#[sl,.int .i64 (s.e:Int)])],R]) [[(gl,146,#[r.v])],r.bl,[(a,132,#[ptr gr]),(b,3,#[.int .i64 (most:Int)]),(c,351,#[.func (.func 208) #[] #[ptr g7,ptr g4]])],N] [0,3,1,2,4,5] kZ (by rfl) (by rw [hR1]; simp) (by simp) h) ⟨[],s,sl,[],hA1.bind ⟨λ_=>l1,λy q h1 hy=>?_,λ_ _=>l1⟩,⟨none,0,0,rfl,rfl,Nat.le_refl _,Nat.zero_le _,λh=>(h J).elim⟩,hse,hrest,hI.byt,rfl⟩ hD hD2 hmk h0.out
   rcases hI.no l1 with h | h
   ·exact (h h1).elim
   ·rw [h] at hy; cases hy
theorem Lh (hm:BI rep) (hp:B4 87 32 ((Z32)) rep p) (w0:Base) (gc gr gx f most:Nat) (hmost:most<1000000) (tx:TypeId) (A Z:List Value) (sl:Value) (s:RS) (R S:AA) (hS:∀ b∈S,b∈R) (hA:A.length=f) (he:s.e≤200) (hl:s.rest.length≤70368744177664) (hv:BytR (rdC w0 S) sl s.rest) (w:World) (hw:St w0 w (CRS gc gr gx tx (A++([Value.slice none 0 0]++Z)) sl s.e R)) :
  AL 169 #[ptr gc,pT gx f,.int .i64 (most:Int),.func (.func 87) #[] #[]] w (AQ w0 (RdT 1 (Na 32 rep) (Cz most p) w0 gc gr gx tx A Z s R S)):=by
 refine Sy.enterT (args:=[ptr gc,pT gx f,.int .i64 (most:Int),.func (.func 87) #[] #[]]) hw Tryz.func169 J kL<|sC<|sM 85 #[ptr gc] (λg4=>?_)
 refine sM 304 #[.func (.func 87) #[] #[]] (λg7=>?_)
 obtain ⟨R1,hR1⟩:=xE (R++([(g4,85,#[ptr gc])]++[(g7,304,#[.func (.func 87) #[] #[]])]))
 refine Sy.permS (M:=CRS gc gr gx tx (A++([Value.slice none 0 0]++Z)) sl s.e R1) (List.Perm.of_eq (by rw [hR1]; simp)) ?_
 have mR:∀ x∈R,x∈R1:=λx hx=>by rw [hR1]; exact List.mem_append_left _ hx
 have m4:(g4,85,#[ptr gc])∈R1:=by rw [hR1]; simp
 have m7:(g7,304,#[.func (.func 87) #[] #[]])∈R1:=by rw [hR1]; simp
 refine sG<|Sy.seq<|sC<|sS (ptr gc) (AH (R:=R1) (Aj m4) Dh J CA)<|sS (.bool true) (qg (λw hw=>CL w0.inn gc gr _ _ (List.mem_cons_self ..) w hw))<|sG<|sT<|sC<|sp J<|sS (ptr gc) (AH (R:=R1) (Aj m4) Dh J CA)<|sp J<|sP (pT gc 1)<|sS (ptr gr) (qc 0 1 J J BD)<|sp J<|sP (.func (.func 208) #[] #[ptr g7,ptr g4])<|Sy.callT (λw hw=>KV (rep:=rep) (p:=p) hm hp w0.inn gc gr g4 g7 most hmost sl s ((gx,tx,(A++([Value.slice none 0 0]++Z)).toArray)::R1) S (λx h=>List.mem_cons_of_mem _ (mR x (hS x h))) (List.mem_cons_of_mem _ m4) (List.mem_cons_of_mem _ m7) he hl hv w (hw.perm BU)) (λv M hM=>?_)
 obtain ⟨l,s',sl',N,q1,q2,q3,q4,q5,rfl⟩:=hM
 refine Sy.permS (M:=CRS gc gr gx tx (A++([Value.slice none 0 0]++Z)) sl' s'.e (R1++N)) BU<|sp J<|sw 1 J (A++([v]++Z)).toArray (Writes.one f 146 v _ _ J kR kR kR q2.cells.1 q2.cells.2 (by rw [List.size_toArray,List.length_append,hA]; exact Nat.lt_add_of_pos_right (Nat.succ_pos _)) (Aq hA))<|sG<|Sy.ret<|Sy.then_ret ?_
 exact Sy.retT0 J (CRS gc gr gx tx (A++([v]++Z)) sl' s'.e (R++N)) (λw h=>Sy.St.parts (ls:=[[(gc,134,#[.pointer none,ptr gr,.bool false]),(gx,tx,(A++([v]++Z)).toArray),(gr,253,#[sl',.int .i64 (s'.e:Int)])],R,[(g4,85,#[ptr gc])]++[(g7,304,#[.func (.func 87) #[] #[]])],N]) (ms:=[[(gc,134,#[.pointer none,ptr gr,.bool false]),(gx,tx,(A++([v]++Z)).toArray),(gr,253,#[sl',.int .i64 (s'.e:Int)])],R,N]) [[(g4,85,#[ptr gc])]++[(g7,304,#[.func (.func 87) #[] #[]])]] [0,1,3,2] kZ (by rfl) (by rw [hR1]; simp) (by simp) h) (λ_=>⟨l,s',sl',[v],N,q1,rfl,λu hu=>by rw [List.mem_singleton.1 hu]; exact q2.cells.2,⟨v,rfl,q2⟩,q3,q4,q5,rfl⟩)
end
end Wr
end
end Go.Proofs.YtdbcombmmnihbaaGreat
