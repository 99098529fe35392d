/-
  Texts of ours, put together: WirGD, WirGE, WirGF, WirGI, WirGG, WirGH, WirXF, WirGR, WirGM.
-/
import Derived.Test.YtgggdbjakcpanaaGreatDoorBX5
set_option linter.unusedVariables false
set_option linter.unusedSimpArgs false
namespace Go.Proofs.YtgggdbjakcpanaaGreatDoor
section
namespace Wr
open Go.RowKit Sy
set_option maxRecDepth 100000
set_option maxHeartbeats 4000000
abbrev hd1 (cs:List Value):Value:=cs.headD (.slice none 0 0)
def RdV1 {α:Type} (k:Nat) (rep:Rdr→List Value→α→Prop) (p:Ps α) (w0:Base) (gc gr:Nat) (s:RS) (R S:Blocks) (v:Value) (M:Blocks):Prop :=
 ∃ x s' sl' cs N,After p s x s'∧cs.length=k∧(∀ u∈cs,u.oneCell'=true)∧rep (rdB N) cs x∧v=hd1 cs∧s'.e≤200∧s'.rest.length≤s.rest.length∧BytR (rdC w0 S) sl' s'.rest∧M=CRN gc gr sl' s'.e (R++N)
theorem one_y {C:Rdr} {cs:List Value} {x:Byt} (h:repY C cs x):∃ A n cp,cs=[Value.slice A n cp]:=by
 obtain ⟨v,rfl,A,n,cp,rfl,_⟩:=h
 exact ⟨A,n,cp,rfl⟩
theorem witness_w:PutC 119 1 repY ok256 encT wtT:=λw0 gc gw gx f bad s R b cs x hx _ hc hb hl w hw=>by
 obtain ⟨v,rfl,h1⟩:=hx
 refine Sy.enterT (args:=[ptr gc,.pointer (some ⟨gx,f,none⟩)]) hw Tryz.func119 rfl kL ?_
 refine Sy.region ?_
 refine sp rfl<|sp rfl ?_
 refine Sy.callT (λw hw=>text_w w0.inn gc gw gx f bad s R b x v 256 (by decide) h1 hc.one hb (by unfold wtT at hl; omega) w hw) (λu M hM=>?_)
 obtain ⟨s1,bad1,b1,k1,k2,rfl⟩:=hM
 refine Sy.nil ?_
 exact Sy.retT0 rfl (CWS gc gw bad1 s1 R) (λ_ h=>h) (λ_=>⟨s1,bad1,b1,k1,k2,rfl⟩)
theorem witness_r:GetC 119 1 [Value.slice none 0 0] repY (textP 256):=λw0 gc gr gx f tx A Z sl s R S hS hA he hl hv w hw=>by
 refine Sy.enterT (args:=[ptr gc,.pointer (some ⟨gx,f,none⟩)]) hw Tryz.func119 rfl kL ?_
 refine Sy.region ?_
 refine sp rfl<|sp rfl ?_
 refine Sy.callT (λw hw=>text_r 256 (by decide) w0.inn gc gr gx f tx A Z sl s R S hS hA he hl hv w hw) (λu M hM=>?_)
 refine Sy.nil ?_
 exact Sy.retT0 rfl _ (λ_ h=>h) (λ_=>hM)
section
variable {α:Type} {rep:Rdr→List Value→α→Prop} {ok:α→Bool} {enc:α→Byt} {wt:α→Nat}
theorem el_w_wit (h1:∀ {C cs x},rep C cs x→∃ A n cp,cs=[Value.slice A n cp]) (hm:Mono rep) (hp:PutC 119 1 rep ok enc wt) (w0:Base) (gc gw g4 g7:Nat) (bad:Bool) (s:Slc) (R:Blocks) (b:Byt) (u:Value) (cs:List Value) (x:α) (h4:(g4,94,#[ptr gc])∈R) (h7:(g7,217,#[.func (.func 119) #[] #[]])∈R) (hx:rep (rdC w0 R) cs x) (hl:cs.length=1) (hb:BS s b) (hlen:b.length+wt x≤70368744170000) (w:World) (hw:St w0 w (CWS gc gw bad s R)) :
  Calls Tryz.prog 184 #[u,hd1 cs,ptr g7,ptr g4] w (Turns w0 (WrC gc gw R (ok x) (enc x) (wt x) bad b)):=by
 obtain ⟨A,n,cp,rfl⟩:=h1 hx
 refine Sy.enterT (args:=[u,.slice A n cp,ptr g7,ptr g4]) hw Tryz.func184 rfl kL ?_
 refine sC ?_
 refine sM 29 [Value.slice A n cp].toArray (λg5=>?_)
 refine Sy.permS (List.Perm.of_eq eqCW) ?_
 refine Sy.nil<|Sy.then_<|Sy.region ?_
 refine sS (.func (.func 119) #[] #[]) (cellC (R:=R++[(g5,29,[Value.slice A n cp].toArray)]) (mem1 (inA h7)) inCW rfl Tryz.underlying217)<|sS (ptr gc) (cellC (R:=R++[(g5,29,[Value.slice A n cp].toArray)]) (mem1 (inA h4)) inCW rfl Tryz.underlying94) ?_
 refine Sy.callT (λw hw=>hp w0.inn gc gw g5 0 bad s (R++[(g5,29,[Value.slice A n cp].toArray)]) b [Value.slice A n cp] x (hm (rdC_le (λ_ h=>inA h)) hx) hl (memX lastR) hb hlen w hw) (λv M hM=>?_)
 obtain ⟨s1,bad1,b1,h1,h2,rfl⟩:=hM
 refine Sy.nil ?_
 exact Sy.retT0 rfl (CWS gc gw bad1 s1 R) (λ_ h=>dropR h) (λ_=>⟨s1,bad1,b1,h1,h2,rfl⟩)
end
section
variable {α:Type} {rep:Rdr→List Value→α→Prop} {ok:α→Bool} {enc:α→Byt} {wt:α→Nat}
theorem put_w_wit (h1:∀ {C cs x},rep C cs x→∃ A n cp,cs=[Value.slice A n cp]) (hm:Mono rep) (hp:PutC 119 1 rep ok enc wt) (w0:Base) (gc gw g4 g7:Nat) (bad:Bool) (s:Slc) (R:Blocks) (b:Byt) (v:Value) (l:List α) (h4:(g4,94,#[ptr gc])∈R) (h7:(g7,217,#[.func (.func 119) #[] #[]])∈R) (hv:LstR (rdC w0 R) 1 rep v l) (hb:BS s b) (hlen:b.length+(9+(l.map wt).sum)≤70368744170000) (w:World) (hw:St w0 w (CWS gc gw bad s R)) :
  Calls Tryz.prog 183 #[ptr gw,v,.func (.func 184) #[] #[ptr g7,ptr g4]] w (Turns w0 (WrC gc gw R (l.all ok) (varB l.length++l.flatMap enc) (9+(l.map wt).sum) bad b)):=by
 obtain ⟨A,n,cp,rfl,h2,h3,h4',h5⟩:=hv
 have hmx:n<9223372036854775808:=by simp only [maxLen] at h4'; omega
 refine Sy.enterT (args:=[ptr gw,.slice A n cp,.func (.func 184) #[] #[ptr g7,ptr g4]]) hw Tryz.func183 rfl kL ?_
 refine sC ?_
 refine sp rfl<|sp rfl<|sP (.int .i64 (n:Int))<|sS (.int .u64 (n:Int)) (Quiet.pure (λw=>conv_i6 w _ _ _ n (by omega) rfl rfl)) ?_
 refine Sy.callT (λw hw=>var_any w0.inn gw s ((gc,126,#[ptr gw,.pointer none,.bool bad])::R) b n (by omega) hb (by omega) w (hw.perm permCW)) (λu M hM=>?_)
 obtain ⟨s1,hs1,rfl⟩:=hM
 have hn9:=varB_len n
 refine Sy.permS permCW.symm ?_
 refine Sy.nil<|sB ?_
 refine sp rfl<|sP (.int .i64 (n:Int))<|sP (.int .i64 0) ?_
 refine sG<|Sy.block ?_
 have hw0:Wrote true (varB n) 9 bad b bad (b++varB n):=Wrote.raw _ _ _ hn9
 have hsum:∀ i,((l.take i).map wt).sum≤(l.map wt).sum:=λi=>by
  have e:=congrArg (λz=>(z.map wt).sum) (List.take_append_drop i l)
  simp only [List.map_append,List.sum_append] at e
  omega
 refine Sy.loopT (Y:=Slc×Bool×Byt) n (λi y=>[(0,ptr gw),(2,.func (.func 184) #[] #[ptr g7,ptr g4]),(13,.slice A n cp),(14,.int .i64 (n:Int)),(15,.int .i64 (i:Int))]) (λi y=>CWS gc gw y.2.1 y.1 R) (λi y=>Wrote ((l.take i).all ok) (varB n++(l.take i).flatMap enc) (9+((l.take i).map wt).sum) bad b y.2.1 y.2.2∧BS y.1 y.2.2) (s1,bad,b++varB n) ⟨by
  have e:Wrote ((l.take 0).all ok) (varB n++(l.take 0).flatMap enc) (9+((l.take 0).map wt).sum) bad b bad (b++varB n):=by
   rw [List.take_zero]
   simpa using hw0
  exact e,hs1⟩ (all_cons kR (all_cons kR (all_cons kR (all_cons kR (all_cons kR all_nil))))) (λ_ h=>h) (λi y hi hy=>?_)
 obtain ⟨sy,bady,by_⟩:=y
 obtain ⟨hy,hsy⟩:=hy
 dsimp only at hy hsy ⊢
 refine sC ?_
 obtain ⟨b2,hb2⟩:∃ z:Bool,z=decide (i<n):=⟨_,rfl⟩
 refine sS (.bool b2) (Quiet.pure (exec_int .lss _ _ _ .i64 _ _ _ rfl rfl rfl (int_lss _ _ _ _ _ (by rw [hb2]; exact decide_eq_decide.2 (by omega))))) ?_
 refine sG<|Sy.seq ?_
 cases b2
 case' false =>
  have l2:¬ i<n:=of_decide_eq_false hb2.symm
  obtain rfl:i=n:=by omega
  rw [List.take_of_length_le (by omega)] at hy
  refine sU<|Sy.exit<|Sy.then_exit<|Sy.then_exit<|Sy.in_exit ?_
  rw [h2]
  exact Sy.retT0 rfl (CWS gc gw bady sy R) (λ_ h=>h) (λ_=>⟨sy,bady,by_,hy,hsy,rfl⟩)
 have l2:i<n:=of_decide_eq_true hb2.symm
 obtain ⟨x,hx⟩:∃ x,l[i]? = some x:=⟨_,List.getElem?_eq_getElem (by omega)⟩
 obtain ⟨g,o,rfl,hq⟩:=h5 (by intro e; rw [e] at hx; cases hx)
 obtain ⟨cs,_,c2,c3,c4⟩:=hq i x hx
 obtain ⟨A1,n1,c1,rfl⟩:=h1 c3
 have htk:l.take (i+1)=l.take i++[x]:=by rw [List.take_add_one,hx]; rfl
 have hsi:=hsum (i+1)
 rw [htk] at hsi
 simp only [List.map_append,List.sum_append,List.map_cons,List.map_nil,List.sum_cons,List.sum_nil] at hsi
 refine sT<|Sy.skip<|Sy.then_<|Sy.seq<|Sy.block<|sC ?_
 refine sS (.pointer (some ⟨g,o+i*1,none⟩)) (Quiet.pure (exec_atO 66 _ _ _ (some ⟨g,o,none⟩) g o n cp i 1 .i64 rfl rfl rfl rfl Tryz.underlying66 kF l2))<|sS (.slice A1 n1 c1) (cellC (R:=R) c4.one inCW rfl Tryz.underlying29)<|sp rfl ?_
 refine Sy.nil<|Sy.then_<|Sy.region ?_
 refine sp rfl<|sp rfl<|sp rfl ?_
 refine Sy.callT (λw hw=>el_w_wit (rep:=rep) (ok:=ok) (enc:=enc) (wt:=wt) h1 hm hp w0.inn gc gw g4 g7 bady sy R by_ (ptr gw) _ x h4 h7 c3 rfl hsy (by have hyl:=hy.len; omega) w hw) (λv M hM=>?_)
 obtain ⟨s3,bad3,b3,q1,q2,rfl⟩:=hM
 refine Sy.nil<|Sy.in_<|Sy.then_<|Sy.region ?_
 refine sS (.int .i64 ((i+1:Nat):Int)) (Quiet.pure (exec_int .add _ _ _ .i64 _ _ _ rfl rfl rfl (int_add _ _ _ _ _ ((wrap_i64 (by omega) (by omega)).trans (by omega)))))<|sp rfl ?_
 refine Sy.nil ?_
 have hW:=hy.then_ q1
 have hW':Wrote ((l.take (i+1)).all ok) (varB n++(l.take (i+1)).flatMap enc) (9+((l.take (i+1)).map wt).sum) bad b bad3 b3:=by
  rw [htk]
  simp only [List.all_append,List.flatMap_append,List.map_append,List.sum_append,List.all_cons,List.all_nil,List.flatMap_cons,List.flatMap_nil,List.map_cons,List.map_nil,List.sum_cons,List.sum_nil,Bool.and_true,List.append_nil,Nat.add_zero, ← List.append_assoc, ← Nat.add_assoc]
  simpa only [List.append_assoc,Nat.add_assoc] using hW
 exact Sy.againT (s3,bad3,b3) l2 ⟨hW',q2⟩ (all_cons kR (all_cons kR (all_cons kR (all_cons kR (all_cons kR all_nil))))) (λw h=>h)
theorem list_w_wit (h1:∀ {C cs x},rep C cs x→∃ A n cp,cs=[Value.slice A n cp]) (hm:Mono rep) (hp:PutC 119 1 rep ok enc wt) (w0:Base) (gc gw gx f most:Nat) (hmo:most<1000000) (bad:Bool) (s:Slc) (R:Blocks) (b:Byt) (v:Value) (l:List α) (hv:LstR (rdC w0 R) 1 rep v l) (hc:rdC w0 R gx f v) (hb:BS s b) (hlen:b.length+(9+(l.map wt).sum)≤70368744170000) (w:World) (hw:St w0 w (CWS gc gw bad s R)) :
  Calls Tryz.prog 118 #[ptr gc,.pointer (some ⟨gx,f,none⟩),.int .i64 (most:Int),.func (.func 119) #[] #[]] w (Turns w0 (WrC gc gw R (decide (l.length≤most) && l.all ok) (varB l.length++l.flatMap enc) (9+(l.map wt).sum) bad b)):=by
 have hv0:=hv
 obtain ⟨A,n,cp,rfl,h2,h3,h4',h5⟩:=hv
 refine Sy.enterT (args:=[ptr gc,.pointer (some ⟨gx,f,none⟩),.int .i64 (most:Int),.func (.func 119) #[] #[]]) hw Tryz.func118 rfl kL ?_
 refine sC ?_
 refine sM 94 #[ptr gc] (λg4=>?_)
 refine Sy.permS (List.Perm.of_eq eqCW) ?_
 refine sM 217 #[.func (.func 119) #[] #[]] (λg7=>?_)
 refine Sy.permS (List.Perm.of_eq eqCW) ?_
 obtain ⟨R1,hR1⟩:∃ R1,R1=R++[(g4,94,#[ptr gc])]++[(g7,217,#[.func (.func 119) #[] #[]])]:=⟨_,rfl⟩
 rw [← hR1]
 have m4:(g4,94,#[ptr gc])∈R1:=by rw [hR1]; exact inA lastR
 have m7:(g7,217,#[.func (.func 119) #[] #[]])∈R1:=by rw [hR1]; exact lastR
 have mR:∀ x∈R,x∈R1:=λx hx=>by rw [hR1]; exact inA (inA hx)
 have hv1:LstR (rdC w0 R1) 1 rep (.slice A n cp) l:=LstR.le (rep:=rep) hm (rdC_le mR) hv0
 have hc1:rdC w0 R1 gx f (.slice A n cp):=rdC_le mR _ _ _ hc
 have back:∀ {w:World} {bad':Bool} {s':Slc},St w0 w (CWS gc gw bad' s' R1)→St w0 w (CWS gc gw bad' s' R):=λh=>by
  rw [hR1,List.append_assoc] at h
  exact dropR h
 refine sG<|Sy.seq<|sC ?_
 refine sS (ptr gc) (cellC (R:=R1) (mem1 m4) inCW rfl Tryz.underlying94)<|sS (.bool false) (qg (λw hw=>reads_w w0.inn gc _ _ (List.mem_cons_self ..) w hw)) ?_
 refine sG<|sU<|Sy.skip ?_
 obtain ⟨b1,hb1⟩:∃ z:Bool,z=decide (n≤most):=⟨_,rfl⟩
 refine sR (λj=>j == 7) ?_
 refine sD 0 rfl (ptr gc) (cellC (R:=R1) (mem1 m4) inCW rfl Tryz.underlying94)<|sa 1 rfl rfl<|sa 2 rfl rfl<|se 3 [4,6,7] rfl (.slice A n cp) (cellC (R:=R1) hc1 inCW rfl Tryz.underlying66)<|sb 4 rfl (.int .i64 (n:Int))<|sa 5 rfl rfl ?_
 refine sv 6 rfl (.bool b1) (exec_int .leq _ _ _ .i64 _ _ _ rfl rfl rfl (int_leq _ _ _ _ _ (by rw [hb1]; exact decide_eq_decide.2 (by omega)))) ?_
 refine Sy.soleD 7 rfl (λQ2 hq2=>?_)
 refine Sy.callT (λw hw=>must_w w0.inn gc gw bad b1 s R1 w hw) (λu M hM=>?_)
 subst hM
 refine hq2 _ _ ?_
 refine sE ?_
 obtain ⟨bad1,hbad1⟩:∃ x,x=(bad || !b1):=⟨_,rfl⟩
 rw [← hbad1]
 refine sB ?_
 refine sS (ptr gc) (cellC (R:=R1) (mem1 m4) inCW rfl Tryz.underlying94)<|sp rfl<|sP (.pointer (some ⟨gc,2,none⟩))<|sS (.bool bad1) (qc 0 2 rfl rfl Tryz.underlying4)<|sP (.bool (!bad1)) ?_
 refine sG ?_
 cases bad1
 ·have hb1t:bad=false∧b1=true:=by cases bad <;> cases b1 <;> first | exact ⟨rfl,rfl⟩ | cases hbad1
  obtain ⟨rfl,rfl⟩:=hb1t
  have e1:decide (l.length≤most)=true:=by rw [h2, ← hb1]
  rw [e1,Bool.true_and]
  refine sT ?_
  refine Sy.regionD (λj=>j == 8) kR ?_
  refine se 0 [1,2,3,8] rfl (ptr gc) (cellC (R:=R1) (mem1 m4) inCW rfl Tryz.underlying94)<|sa 1 rfl rfl<|sb 2 rfl (.pointer (some ⟨gc,0,none⟩))<|sD 3 rfl (ptr gw) (qc 0 0 rfl rfl Tryz.underlying122)<|sa 4 rfl rfl<|sa 5 rfl rfl<|sD 6 rfl (.slice A n cp) (cellC (R:=R1) hc1 inCW rfl Tryz.underlying66)<|sb 7 rfl (.func (.func 184) #[] #[ptr g7,ptr g4]) ?_
  refine Sy.soleD 8 rfl (λQ2 hq2=>?_)
  refine Sy.callT (λw hw=>put_w_wit (rep:=rep) h1 hm hp w0.inn gc gw g4 g7 false s R1 b (.slice A n cp) l m4 m7 hv1 hb hlen w hw) (λu M hM=>?_)
  obtain ⟨s1,bad2,b2,q1,q2,rfl⟩:=hM
  refine hq2 _ _ ?_
  refine sE ?_
  exact Sy.retT0 rfl (CWS gc gw bad2 s1 R) (λ_ h=>back h) (λ_=>⟨s1,bad2,b2,q1,q2,rfl⟩)
 ·refine sU<|Sy.skip ?_
  have e1:true=(bad || !(decide (l.length≤most) && l.all ok)):=by
   rw [h2, ← hb1]
   cases bad
   ·cases b1
    ·rfl
    ·cases hbad1
   ·rfl
  exact Sy.retT0 rfl (CWS gc gw true s R) (λ_ h=>back h) (λ_=>⟨s,true,b,⟨e1,λh=>(by cases h),by omega⟩,hb,rfl⟩)
end
section
variable {α:Type} {rep:Rdr→List Value→α→Prop} {p:Ps α}
theorem el_r_wit (h1:∀ {C cs x},rep C cs x→∃ A n cp,cs=[Value.slice A n cp]) (hm:Mono rep) (hp:GetC 119 1 ([Value.slice none 0 0]) rep p) (w0:Base) (gc gr g4 g7:Nat) (sl:Value) (s:RS) (R S:Blocks) (hS:∀ b∈S,b∈R) (h4:(g4,94,#[ptr gc])∈R) (h7:(g7,217,#[.func (.func 119) #[] #[]])∈R) (he:s.e≤200) (hl:s.rest.length≤70368744177664) (hv:BytR (rdC w0 S) sl s.rest) (u:Value) (w:World) (hw:St w0 w (CRN gc gr sl s.e R)) :
  Calls Tryz.prog 182 #[u,ptr g7,ptr g4] w (Turns w0 (RdV1 1 rep p w0 gc gr s R S)):=by
 refine Sy.enterT (args:=[u,ptr g7,ptr g4]) hw Tryz.func182 rfl kL ?_
 refine sC ?_
 refine sP (.slice none 0 0) ?_
 refine sA ?_
 refine sM 29 #[.slice none 0 0] (λgb=>?_)
 refine Sy.permS (M:=CRS gc gr gb 29 ([]++([Value.slice none 0 0]++[])) sl s.e R) (List.Perm.cons _ (List.perm_append_comm (l₁:=_::R) (l₂:=[_]))) ?_
 refine sA ?_
 refine sS (.func (.func 119) #[] #[]) (cellC (R:=R) (mem1 h7) inCR rfl Tryz.underlying217)<|sS (ptr gc) (cellC (R:=R) (mem1 h4) inCR rfl Tryz.underlying94) ?_
 refine Sy.callT (λw hw=>hp w0.inn gc gr gb 0 29 [] [] sl s R S hS rfl he hl hv w hw) (λv M hM=>?_)
 obtain ⟨x,s',sl',cs,N,q1,q2,q3,q4,q5,q6,q7,rfl⟩:=hM
 obtain ⟨A1,n1,c1,rfl⟩:=h1 q4
 refine sA ?_
 refine sS (.slice A1 n1 c1) (qc 1 0 rfl rfl Tryz.underlying29)<|sp rfl ?_
 refine sG<|Sy.ret ?_
 exact Sy.retT1 (CRN gc gr sl' s'.e (R++N)) rfl (.inl (show _=_ by kernel_rfl)) (λw h=>h.less ((List.Sublist.refl _).cons _ |>.cons_cons _)) ⟨x,s',sl',_,N,q1,q2,q3,q4,rfl,q5,q6,q7,rfl⟩
theorem items_r_wit (w:World) (gr most g4 g7:Nat):Calls Tryz.prog 220 #[ptr gr,.int .i64 (most:Int),.func (.func 182) #[] #[ptr g7,ptr g4]] w (GetsN w (λv M=>∃ a b c,v=.func (.func 260) #[] #[ptr a,ptr b,ptr c]∧M=[(a,124,#[ptr gr]),(b,3,#[.int .i64 (most:Int)]),(c,299,#[.func (.func 182) #[] #[ptr g7,ptr g4]])])):=by
 refine Sy.enter (args:=[ptr gr,.int .i64 (most:Int),.func (.func 182) #[] #[ptr g7,ptr g4]]) Tryz.func220 rfl kL ?_
 refine sC ?_
 refine sM 124 #[ptr gr] (λa=>?_)
 refine sM 3 #[.int .i64 (most:Int)] (λb=>?_)
 refine sM 299 #[.func (.func 182) #[] #[ptr g7,ptr g4]] (λc=>?_)
 refine sP .nilFunc ?_
 refine sA ?_
 refine sP (.func (.func 260) #[] #[ptr a,ptr b,ptr c])<|sp rfl ?_
 refine sG<|Sy.ret ?_
 exact Sy.retGM _ rfl (.inl (show _=_ by kernel_rfl)) (λ_ h=>h) ⟨a,b,c,rfl,rfl⟩
noncomputable def inf_wit:TypeInfo:=(Tryz.prog.info? 29).getD default
theorem info_wit:Tryz.prog.info? 29=some inf_wit:=by kernel_rfl
def HYL_wit (p:Ps α) (rep:Rdr→List Value→α→Prop) (w0:Base) (S:Blocks) (m:Nat) (s1:RS) (v:Nat×List Value) (y:YL α):Prop:=∃ x,y.x=some x∧y.l.length=v.1∧RowsOk 29 1 rep y.r y.N y.l∧rep (rdB y.N) v.2 x∧v.2.length=1∧(∀ u∈v.2,u.oneCell'=true)∧v.1<1000000
def HRL_wit (rep:Rdr→List Value→α→Prop) (y y':YL α):Prop:=∃ x r',y.x=some x∧RowsOk 29 1 rep r' y.N (y.l++[x])∧y'={ y with l:=y.l++[x],r:=r',x:=none }
theorem iter_r_wit (h1:∀ {C cs x},rep C cs x→∃ A n cp,cs=[Value.slice A n cp]) (hm:Mono rep) (hp:GetC 119 1 ([Value.slice none 0 0]) rep p) (w0:Base) (fz:World) (gc gr gl g4 g7 a b c most:Nat) (hmost:most<1000000) (R S:Blocks) (s0:RS) (sl0:Value) (hS:∀ x∈S,x∈R) (h4:(g4,94,#[ptr gc])∈R) (h7:(g7,217,#[.func (.func 119) #[] #[]])∈R) (ha:(a,124,#[ptr gr])∈R) (hb:(b,3,#[.int .i64 (most:Int)])∈R) (hc:(c,299,#[.func (.func 182) #[] #[ptr g7,ptr g4]])∈R) (he:s0.e≤200) (hl:s0.rest.length≤70368744177664) (hv:BytR (rdC w0 S) sl0 s0.rest) (lp:Nat) (w:World) (hw:St (ib w0.world fz) w (LBL gc gr gl 66 nilS s0.e sl0 R []))
  (hY:∀ (v:Nat×List Value) (y:YL α) (W:World),(HYL_wit p rep w0 S 0 s0 v y)→St (ib w0.world fz) W (LBL gc gr gl 66 y.r y.s.e y.sl R y.N)→YieldAt Fence.wide 7 Tryz.prog lp #[.int .i64 (v.1:Int),hd1 v.2] W (RoundT w0.world fz (HRL_wit rep y) (λy=>LBL gc gr gl 66 y.r y.s.e y.sl R y.N))) :
  CallsIn Fence.wide 8 Tryz.prog 260 #[.func (.yield lp) #[] #[],ptr a,ptr b,ptr c] w (DoneT w0.world fz (λy:YL α=>∃ m s1,After (varP most) s0 m s1∧s1.rest.length≤s0.rest.length∧y.l.length≤most∧InvL 29 1 rep p w0 S m s1 y.l.length y∧(y.s.e=0→y.l.length=m)) (λy=>LBL gc gr gl 66 y.r y.s.e y.sl R y.N)):=by
 refine Sy.enterI (args:=[.func (.yield lp) #[] #[],ptr a,ptr b,ptr c]) hw Tryz.func260 rfl kL ?_
 refine sC ?_
 refine sS (ptr gr) (cellC (R:=R) (mem1 ha) lbl_in rfl Tryz.underlying124)<|sS (.int .i64 (most:Int)) (cellC (R:=R) (mem1 hb) lbl_in rfl Tryz.underlying3) ?_
 refine Sy.callT (λw hw=>count_any (ib w0.world fz) gr sl0 s0 ((gc,126,#[.pointer none,ptr gr,.bool false])::(gl,66,#[.slice none 0 0])::(R++[])) S (λx h=>List.mem_cons_of_mem _ (List.mem_cons_of_mem _ (List.mem_append_left _ (hS x h)))) most hmost he hv w (hw.perm swap12)) (λu M hM=>?_)
 obtain ⟨m,s1,sl1,hA1,⟨rfl,hm1⟩,hs1e,hs1r,hs1b,rfl⟩:=hM
 refine Sy.permS (M:=LBL gc gr gl 66 nilS s1.e sl1 R []) swap12.symm ?_
 refine sp rfl ?_
 refine sA ?_
 refine sP (.int .i64 0) ?_
 refine sG<|Sy.block ?_
 refine Sy.loopT (Y:=YL α) m (λi y=>[(0,.func (.yield lp) #[] #[]),(1,ptr a),(2,ptr b),(3,ptr c),(5,.int .i64 (m:Int)),(6,.int .i64 (i:Int))]) (λi y=>LBL gc gr gl 66 y.r y.s.e y.sl R y.N) (λi y=>InvL 29 1 rep p w0 S m s1 i y) ⟨[],nilS,s1,sl1,[],none⟩ ⟨rfl,RowsOk.nil,λh=>⟨h,rfl⟩,λh=>.inl h,hs1e,Nat.le_refl _,hs1b⟩ (all_cons kR (all_cons kR (all_cons kR (all_cons kR (all_cons kR (all_cons kR all_nil)))))) (λ_ h=>h) (λi y hi hy=>?_)
 obtain ⟨l,r,s,sl,N,xo⟩:=y
 have hylen:l.length=i:=hy.len
 refine Sy.seq<|sC ?_
 obtain ⟨b1,hb1⟩:∃ z:Bool,z=decide (i<m):=⟨_,rfl⟩
 refine sp rfl<|sp rfl<|sS (.bool b1) (Quiet.pure (exec_int .lss _ _ _ .i64 _ _ _ rfl rfl rfl (int_lss _ _ _ _ _ (by rw [hb1]; exact decide_eq_decide.2 (by omega)))))<|sp rfl ?_
 cases b1
 case' false =>
  have l1:¬ i<m:=of_decide_eq_false hb1.symm
  obtain rfl:i=m:=by omega
  refine sN<|sN<|sN<|sP (.bool false) ?_
  refine sG<|sU<|Sy.exit<|Sy.then_exit<|Sy.then_exit<|Sy.in_exit ?_
  exact Sy.retI rfl (λv w h=>⟨⟨_,rfl⟩,⟨l,r,s,sl,N,xo⟩,⟨i,s1,hA1,hs1r,by show l.length≤most; omega,by rw [show (⟨l,r,s,sl,N,xo⟩:YL α).l.length=i from hylen]; exact hy,λ_=>hylen⟩,h⟩) (.inr rfl)
 have l1:i<m:=of_decide_eq_true hb1.symm
 obtain ⟨b2,hb2⟩:∃ z:Bool,z=decide (s.e=0):=⟨_,rfl⟩
 have hse:s.e≤200:=hy.e
 refine sS (ptr gr) (cellC (R:=R) (mem1 ha) lbl_in rfl Tryz.underlying124)<|sS (.int .i64 (s.e:Int)) (qg (λw hw=>err_any (ib w0.world fz) gr sl s.e [] (List.mem_cons_of_mem _ (List.mem_cons_self ..)) w hw))<|sS (.bool b2) (Quiet.pure (exec_int .eql _ _ _ .i64 _ _ _ rfl rfl rfl (int_eql _ _ _ _ _ (by rw [hb2]; exact decide_eq_decide.2 (by omega)))))<|sP (.bool b2) ?_
 refine sG ?_
 cases b2
 case' false =>
  have l2:s.e≠0:=of_decide_eq_false hb2.symm
  refine sU<|Sy.exit<|Sy.then_exit<|Sy.then_exit<|Sy.in_exit ?_
  exact Sy.retI rfl (λv w h=>⟨⟨_,rfl⟩,⟨l,r,s,sl,N,xo⟩,⟨m,s1,hA1,hs1r,by show l.length≤most; omega,by rw [show (⟨l,r,s,sl,N,xo⟩:YL α).l.length=i from hylen]; exact hy,λh=>(l2 h).elim⟩,h⟩) (.inr rfl)
 have l2:s.e=0:=of_decide_eq_true hb2.symm
 obtain ⟨hs10,hrep⟩:=hy.yes l2
 refine sT<|Sy.skip<|Sy.then_<|Sy.seq<|Sy.block<|sC ?_
 refine sS (.func (.func 182) #[] #[ptr g7,ptr g4]) (cellC (R:=R) (mem1 hc) lbl_in rfl Tryz.underlying299)<|sS (ptr gr) (cellC (R:=R) (mem1 ha) lbl_in rfl Tryz.underlying124) ?_
 refine Sy.callT (λw hw=>el_r_wit (rep:=rep) (p:=p) h1 hm hp (ib w0.world fz) gc gr g4 g7 sl s ((gl,66,#[r.v])::(r.bl++(R++N))) S (λx h=>List.mem_cons_of_mem _ (List.mem_append_right _ (List.mem_append_left _ (hS x h)))) (List.mem_cons_of_mem _ (List.mem_append_right _ (List.mem_append_left _ h4))) (List.mem_cons_of_mem _ (List.mem_append_right _ (List.mem_append_left _ h7))) hse (Nat.le_trans (Nat.le_trans hy.rest hs1r) hl) hy.byt (ptr gr) w hw) (λu M hM=>?_)
 obtain ⟨x,s',sl',cs,N1,q1,q2,q3,q4,rfl,q5,q6,q7,rfl⟩:=hM
 obtain ⟨st1,st2⟩:=rep_step hrep l2 q1
 obtain ⟨A9,n9,c9,rfl⟩:=h1 q4
 refine Sy.permS (M:=LBL gc gr gl 66 r s'.e sl' R (N++N1)) (List.Perm.of_eq (by simp only [List.cons_append,List.append_assoc,List.nil_append])) ?_
 refine sp rfl ?_
 refine Sy.nil<|Sy.then_ ?_
 have hR2:RowsOk 29 1 rep r (N++N1) l:=RowsOk.more (rep:=rep) hm hy.rows (λb h=>List.mem_append_left _ h)
 have hx2:rep (rdB (N++N1)) [.slice A9 n9 c9] x:=hm (rdB_le λb h=>List.mem_append_right _ h) q4
 have drop1:∀ {w:World},St (ib w0.world fz) w (LBL gc gr gl 66 r s'.e sl' R (N++N1))→St (ib w0.world fz) w (LBL gc gr gl 66 r s'.e sl' R (N++N1)):=λh=>h
 obtain ⟨b3,hb3⟩:∃ z:Bool,z=decide (s'.e≠0):=⟨_,rfl⟩
 have inl:∀ b∈R,b∈LBL gc gr gl 66 r s'.e sl' R (N++N1):=λb h=>lbl_in b h
 refine Sy.seq ?_
 cases b3
 case' true =>
  have l3:s'.e≠0:=of_decide_eq_true hb3.symm
  refine Sy.region ?_
  refine sS (ptr gr) (cellC (R:=R) (mem1 ha) inl rfl Tryz.underlying124)<|sS (.int .i64 (s'.e:Int)) (qg (λw hw=>err_any (ib w0.world fz) gr sl' s'.e [] (List.mem_cons_of_mem _ (List.mem_cons_self ..)) w hw))<|sS (.bool true) (Quiet.pure (exec_int .neq _ _ _ .i64 _ _ _ rfl rfl rfl (int_neq _ _ _ _ _ (by rw [hb3]; exact decide_eq_decide.2 (by omega)))))<|sp rfl<|sN<|sN<|sN<|sN<|sN<|sP (.bool true) ?_
  refine sG<|sT<|Sy.ret<|Sy.in_ret<|Sy.then_ret<|Sy.then_ret<|Sy.in_ret ?_
  exact Sy.retI rfl (λv w h=>⟨⟨_,rfl⟩,⟨l,r,s',sl',N++N1,none⟩,⟨m,s1,hA1,hs1r,by show l.length≤most; omega,⟨rfl,hR2,λh=>(l3 h).elim,λ_=>.inr (st2 l3 m l1),q5,Nat.le_trans q6 hy.rest,q7⟩,λh=>(l3 h).elim⟩,drop1 h⟩) (.inl rfl)
 have l3:s'.e=0:=Decidable.of_not_not (of_decide_eq_false hb3.symm)
 refine Sy.regionI 7 (by rintro ⟨_,_,⟨_,hv⟩,_⟩; cases hv) kR ?_
 refine sS (ptr gr) (cellC (R:=R) (mem1 ha) inl rfl Tryz.underlying124)<|sS (.int .i64 (s'.e:Int)) (qg (λw hw=>err_any (ib w0.world fz) gr sl' s'.e [] (List.mem_cons_of_mem _ (List.mem_cons_self ..)) w hw))<|sS (.bool false) (Quiet.pure (exec_int .neq _ _ _ .i64 _ _ _ rfl rfl rfl (int_neq _ _ _ _ _ (by rw [hb3]; exact decide_eq_decide.2 (by omega)))))<|sp rfl<|sp rfl<|sp rfl<|sp rfl ?_
 refine Sy.nil ?_
 refine Sy.yieldI (HR:=HRL_wit rep ⟨l,r,s',sl',N++N1,some x⟩) (LR:=λy=>LBL gc gr gl 66 y.r y.s.e y.sl R y.N) rfl (by rintro ⟨_,_,⟨_,hv⟩,_⟩; cases hv) kR kR lp #[.int .i64 (i:Int),.slice A9 n9 c9] kF (λw hw=>hY (i,[.slice A9 n9 c9]) ⟨l,r,s',sl',N++N1,some x⟩ w ⟨x,rfl,hylen,hR2,hx2,q2,q3,by show i<1000000; omega⟩ (drop1 hw)) (λy' hy'=>?_)
 obtain ⟨x',r',hx',hr',rfl⟩:=hy'
 obtain rfl:x=x':=by injection hx'
 refine sP (.bool false)<|sP (.bool false) ?_
 refine sG<|sU<|Sy.skip<|Sy.in_<|Sy.then_<|Sy.region ?_
 refine sp rfl<|sS (.int .i64 ((i+1:Nat):Int)) (Quiet.pure (exec_int .add _ _ _ .i64 _ _ _ rfl rfl rfl (int_add _ _ _ _ _ ((wrap_i64 (by omega) (by omega)).trans (by omega)))))<|sp rfl ?_
 refine Sy.nil ?_
 exact Sy.againT ⟨l++[x],r',s',sl',N++N1,none⟩ l1 ⟨by simp [hylen],hr',λ_=>⟨hs10,st1 l3⟩,λh=>(h l3).elim,q5,Nat.le_trans q6 hy.rest,q7⟩ (all_cons kR (all_cons kR (all_cons kR (all_cons kR (all_cons kR (all_cons kR all_nil)))))) (λw h=>h)
theorem list9_r_wit (h1:∀ {C cs x},rep C cs x→∃ A n cp,cs=[Value.slice A n cp]) (hm:Mono rep) (hp:GetC 119 1 ([Value.slice none 0 0]) rep p) (w0:Base) (gc gr g4 g7 most:Nat) (hmost:most<1000000) (sl0:Value) (s0:RS) (R S:Blocks) (hS:∀ x∈S,x∈R) (h4:(g4,94,#[ptr gc])∈R) (h7:(g7,217,#[.func (.func 119) #[] #[]])∈R) (he:s0.e≤200) (hl:s0.rest.length≤70368744177664) (hv:BytR (rdC w0 S) sl0 s0.rest) (w:World) (hw:St w0 w (CRN gc gr sl0 s0.e R)) :
  Calls Tryz.prog 181 #[ptr gr,.int .i64 (most:Int),.func (.func 182) #[] #[ptr g7,ptr g4]] w (Turns w0 (RdL 1 rep (listP most p) w0 gc gr s0 R S)):=by
 refine Sy.enterTM (args:=[ptr gr,.int .i64 (most:Int),.func (.func 182) #[] #[ptr g7,ptr g4]]) hw Tryz.func181 rfl kL ?_
 refine sC ?_
 refine sP (.slice none 0 0) ?_
 refine sA ?_
 refine sM 66 #[.slice none 0 0] (λgl=>?_)
 refine sG<|Sy.seq<|sC ?_
 refine sp rfl<|sp rfl<|sp rfl ?_
 refine Sy.callN kR 220 #[ptr gr,.int .i64 (most:Int),.func (.func 182) #[] #[ptr g7,ptr g4]] kF _ (λw _=>items_r_wit w gr most g4 g7) (λv M hM=>?_)
 obtain ⟨a,b,c,rfl,rfl⟩:=hM
 refine Sy.nil<|Sy.then_<|Sy.block ?_
 obtain ⟨R1,hR1⟩:∃ R1,R1=R++[(a,124,#[ptr gr]),(b,3,#[.int .i64 (most:Int)]),(c,299,#[.func (.func 182) #[] #[ptr g7,ptr g4]])]:=⟨_,rfl⟩
 refine Sy.permC (M:=LBL gc gr gl 66 nilS s0.e sl0 R1 []) (by rw [hR1]; exact permLB) ?_
 have mR:∀ x∈R,x∈R1:=λx hx=>by rw [hR1]; exact List.mem_append_left _ hx
 have ma:(a,124,#[ptr gr])∈R1:=by rw [hR1]; simp
 have mb:(b,3,#[.int .i64 (most:Int)])∈R1:=by rw [hR1]; simp
 have mc:(c,299,#[.func (.func 182) #[] #[ptr g7,ptr g4]])∈R1:=by rw [hR1]; simp
 refine Sy.rangeT (α:=Nat×List Value) (Y:=YL α) (Z:=Unit) 260 #[ptr a,ptr b,ptr c] kR kR (enters_of Tryz.func260 kR rfl) (λv=>#[.int .i64 (v.1:Int),hd1 v.2]) (λ_=>rfl) (by decide)
  (HYL_wit p rep w0 S 0 s0) (λ_ y=>LBL gc gr gl 66 y.r y.s.e y.sl R1 y.N) (λv _ _=>[(7,ptr gl),(9,hd1 v.2)]) (λ_ y _=>LBL gc gr gl 66 y.r y.s.e y.sl R1 y.N) (λ_ y=>HRL_wit rep y) (λy=>LBL gc gr gl 66 y.r y.s.e y.sl R1 y.N)
  (λy:YL α=>∃ m s1,After (varP most) s0 m s1∧s1.rest.length≤s0.rest.length∧y.l.length≤most∧InvL 29 1 rep p w0 S m s1 y.l.length y∧(y.s.e=0→y.l.length=m)) (λy=>LBL gc gr gl 66 y.r y.s.e y.sl R1 y.N) ?_ ?_ ?_ ?_
 ·exact λlp fz w hw hY=>iter_r_wit (rep:=rep) (p:=p) h1 hm hp w0 fz gc gr gl g4 g7 a b c most hmost R1 S s0 sl0 (λx h=>mR x (hS x h)) (mR _ h4) (mR _ h7) ma mb mc he hl hv lp w hw hY
 ·rintro lp fz ⟨i,cs⟩ ⟨l,r,s,sl,N,xo⟩ ⟨x,rfl,_,_,_,c1,c2,_⟩
  dsimp only at c1 c2 ⊢
  refine Sy.regionR (by rintro ⟨_,_,h⟩; exact h) kR ⟨_,rfl⟩ ?_
  refine sp rfl ?_
  refine Sy.nil ?_
  exact apZ () (all_cons kR (all_cons kR all_nil)) (λ_ h=>h)
 ·rintro lp fz ⟨i,cs⟩ ⟨l,r,s,sl,N,xo⟩ z ⟨x,rfl,hli,⟨xs,x1,x2,x3⟩,hx,_,c2,hi⟩
  obtain ⟨A9,n9,c9,e9⟩:=h1 hx
  dsimp only at e9 c2 hli x1 x2 x3 hx hi ⊢
  subst e9
  refine Sy.block ?_
  refine Sy.regionR (by rintro ⟨_,_,h⟩; exact h) kR ⟨_,rfl⟩ ?_
  refine sS r.v (qc 2 0 rfl rfl Tryz.underlying66)<|sp rfl ?_
  refine Sy.make kR 29 #[Value.slice A9 n9 c9] (λg=>.slice (some ⟨g,0,none⟩) 1 1) kF (λg8=>?_)
  refine Sy.permS (M:=[(gc,126,#[.pointer none,ptr gr,.bool false]),(gr,231,#[sl,.int .i64 (s.e:Int)]),(gl,66,#[r.v]),(g8,29,#[Value.slice A9 n9 c9])]++(r.bl++(R1++N))) (Sy.flat_perm (ls:=[[(gc,126,#[.pointer none,ptr gr,.bool false]),(gr,231,#[sl,.int .i64 (s.e:Int)]),(gl,66,#[r.v])],r.bl++(R1++N),[(g8,29,#[Value.slice A9 n9 c9])]]) (ms:=[[(gc,126,#[.pointer none,ptr gr,.bool false]),(gr,231,#[sl,.int .i64 (s.e:Int)]),(gl,66,#[r.v])],[(g8,29,#[Value.slice A9 n9 c9])],r.bl++(R1++N)]) [0,2,1] (by kernel_rfl) (by rfl) (by simp) (by simp)) ?_
  refine Sy.appendR kR 66 29 _ _ 1 24 Tryz.underlying66 info_wit rfl rfl rfl rfl (by decide) _ _ rfl x1 kR [.slice A9 n9 c9] rfl c2 3 g8 29 kR kR (by omega) (by simp only [maxLen]; omega) (λr' hr'=>?_)
  refine sw 2 rfl #[r'.v] (Writes.one 0 66 r'.v _ _ rfl kR kR kR hr'.cells.1 hr'.cells.2 Nat.zero_lt_one kR) ?_
  refine Sy.setT ?_
  refine Sy.nil<|Sy.in_ ?_
  exact bpZ ⟨l++[x],r',s,sl,N,none⟩ ⟨x,r',rfl,RowsOk.add (rep:=rep) x2 x3 hr' hx,rfl⟩ (λw h=>Sy.St.parts (ls:=[[(gc,126,#[.pointer none,ptr gr,.bool false]),(gr,231,#[sl,.int .i64 (s.e:Int)]),(gl,66,#[r'.v])],[(g8,29,#[Value.slice A9 n9 c9])],r'.bl++(R1++N)]) (ms:=[[(gc,126,#[.pointer none,ptr gr,.bool false]),(gr,231,#[sl,.int .i64 (s.e:Int)]),(gl,66,#[r'.v])],r'.bl++(R1++N)]) [[(g8,29,#[Value.slice A9 n9 c9])]] [0,2,1] (by kernel_rfl) (by rfl) (by simp) (by simp) h)
 ·rintro D fz ⟨l,r,s,sl,N,xo⟩ ⟨m,s1,hA1,hs1,hlm,hI,hdn⟩ hD hD2 hmk h0
  dsimp only at hI hdn hlm ⊢
  have hse:s.e≤200:=hI.e
  have hrest:s.rest.length≤s0.rest.length:=Nat.le_trans hI.rest hs1
  refine Sy.in_<|Sy.then_<|Sy.seq<|sC ?_
  obtain ⟨b1,hb1⟩:∃ z:Bool,z=decide (s.e≠0):=⟨_,rfl⟩
  refine sp rfl<|sS (.int .i64 (s.e:Int)) (qg (λw hw=>err_any (ab w0.world fz D) gr sl s.e [] (List.mem_cons_of_mem _ (List.mem_cons_self ..)) w hw))<|sS (.bool b1) (Quiet.pure (exec_int .neq _ _ _ .i64 _ _ _ rfl rfl rfl (int_neq _ _ _ _ _ (by rw [hb1]; exact decide_eq_decide.2 (by omega))))) ?_
  refine sG ?_
  cases b1
  ·have l1:s.e=0:=Decidable.of_not_not (of_decide_eq_false hb1.symm)
   obtain ⟨z1,z2⟩:=hI.yes l1
   rw [hdn l1] at z2
   refine sU<|Sy.skip<|sB ?_
   refine sS r.v (qc 2 0 rfl rfl Tryz.underlying66)<|sp rfl ?_
   refine sG<|Sy.ret ?_
   refine Sy.retTM1 (b0:=w0) (M:=CRN gc gr sl s.e (R++(N++r.bl))) rfl (.inl (show _=_ by kernel_rfl)) (λw h=>Sy.St.parts (ls:=[[(gc,126,#[.pointer none,ptr gr,.bool false]),(gr,231,#[sl,.int .i64 (s.e:Int)])],[(gl,66,#[r.v])],r.bl,R,[(a,124,#[ptr gr]),(b,3,#[.int .i64 (most:Int)]),(c,299,#[.func (.func 182) #[] #[ptr g7,ptr g4]])],N]) (ms:=[[(gc,126,#[.pointer none,ptr gr,.bool false]),(gr,231,#[sl,.int .i64 (s.e:Int)])],R,N,r.bl]) [[(gl,66,#[r.v])],[(a,124,#[ptr gr]),(b,3,#[.int .i64 (most:Int)]),(c,299,#[.func (.func 182) #[] #[ptr g7,ptr g4]])]] [0,3,5,2,1,4] (by kernel_rfl) (by rfl) (by rw [hR1]; simp) (by simp) h) ⟨l,s,sl,N++r.bl,hA1.bind ⟨λh=>(h z1).elim,λy q _ hy=>?_,λ_ hy=>?_⟩,RowsOk.lst (rep:=rep) hm hI.rows,hse,hrest,hI.byt,rfl⟩ hD hD2 hmk h0.out
   ·rw [z2] at hy
    cases hy
    exact ⟨rfl,by rw [← l1]⟩
   ·rw [z2] at hy; cases hy
  ·have l1:s.e≠0:=of_decide_eq_true hb1.symm
   refine sT<|sC ?_
   refine sP (.slice none 0 0) ?_
   refine sG<|Sy.ret<|Sy.then_ret ?_
   refine Sy.retTM1 (b0:=w0) (M:=CRN gc gr sl s.e (R++[])) rfl (.inl (show _=_ by kernel_rfl)) (λw h=>Sy.St.parts (ls:=[[(gc,126,#[.pointer none,ptr gr,.bool false]),(gr,231,#[sl,.int .i64 (s.e:Int)])],[(gl,66,#[r.v])],r.bl,R,[(a,124,#[ptr gr]),(b,3,#[.int .i64 (most:Int)]),(c,299,#[.func (.func 182) #[] #[ptr g7,ptr g4]])],N]) (ms:=[[(gc,126,#[.pointer none,ptr gr,.bool false]),(gr,231,#[sl,.int .i64 (s.e:Int)])],R]) [[(gl,66,#[r.v])],r.bl,[(a,124,#[ptr gr]),(b,3,#[.int .i64 (most:Int)]),(c,299,#[.func (.func 182) #[] #[ptr g7,ptr g4]])],N] [0,3,1,2,4,5] (by kernel_rfl) (by rfl) (by rw [hR1]; simp) (by simp) h) ⟨[],s,sl,[],hA1.bind ⟨λ_=>l1,λy q h1 hy=>?_,λ_ _=>l1⟩,⟨none,0,0,rfl,rfl,Nat.le_refl _,Nat.zero_le _,λh=>(h rfl).elim⟩,hse,hrest,hI.byt,rfl⟩ hD hD2 hmk h0.out
   rcases hI.no l1 with h | h
   ·exact (h h1).elim
   ·rw [h] at hy; cases hy
theorem list_r_wit (h1:∀ {C cs x},rep C cs x→∃ A n cp,cs=[Value.slice A n cp]) (hm:Mono rep) (hp:GetC 119 1 ([Value.slice none 0 0]) rep p) (w0:Base) (gc gr gx f most:Nat) (hmost:most<1000000) (tx:TypeId) (A Z:List Value) (sl:Value) (s:RS) (R S:Blocks) (hS:∀ b∈S,b∈R) (hA:A.length=f) (he:s.e≤200) (hl:s.rest.length≤70368744177664) (hv:BytR (rdC w0 S) sl s.rest) (w:World) (hw:St w0 w (CRS gc gr gx tx (A++([Value.slice none 0 0]++Z)) sl s.e R)) :
  Calls Tryz.prog 118 #[ptr gc,.pointer (some ⟨gx,f,none⟩),.int .i64 (most:Int),.func (.func 119) #[] #[]] w (Turns w0 (RdT 1 (repL 1 rep) (listP most p) w0 gc gr gx tx A Z s R S)):=by
 refine Sy.enterT (args:=[ptr gc,.pointer (some ⟨gx,f,none⟩),.int .i64 (most:Int),.func (.func 119) #[] #[]]) hw Tryz.func118 rfl kL ?_
 refine sC ?_
 refine sM 94 #[ptr gc] (λg4=>?_)
 refine sM 217 #[.func (.func 119) #[] #[]] (λg7=>?_)
 obtain ⟨R1,hR1⟩:∃ R1,R1=R++([(g4,94,#[ptr gc])]++[(g7,217,#[.func (.func 119) #[] #[]])]):=⟨_,rfl⟩
 refine Sy.permS (M:=CRS gc gr gx tx (A++([Value.slice none 0 0]++Z)) sl s.e R1) (List.Perm.of_eq (by rw [hR1]; simp)) ?_
 have mR:∀ x∈R,x∈R1:=λx hx=>by rw [hR1]; exact List.mem_append_left _ hx
 have m4:(g4,94,#[ptr gc])∈R1:=by rw [hR1]; simp
 have m7:(g7,217,#[.func (.func 119) #[] #[]])∈R1:=by rw [hR1]; simp
 refine sG<|Sy.seq<|sC ?_
 refine sS (ptr gc) (cellC (R:=R1) (mem1 m4) inCR rfl Tryz.underlying94)<|sS (.bool true) (qg (λw hw=>reads_r w0.inn gc gr _ _ (List.mem_cons_self ..) w hw)) ?_
 refine sG<|sT<|sC ?_
 refine sp rfl<|sS (ptr gc) (cellC (R:=R1) (mem1 m4) inCR rfl Tryz.underlying94)<|sp rfl<|sP (.pointer (some ⟨gc,1,none⟩))<|sS (ptr gr) (qc 0 1 rfl rfl Tryz.underlying124)<|sp rfl<|sP (.func (.func 182) #[] #[ptr g7,ptr g4]) ?_
 refine Sy.callT (λw hw=>list9_r_wit (rep:=rep) (p:=p) h1 hm hp w0.inn gc gr g4 g7 most hmost sl s ((gx,tx,(A++([Value.slice none 0 0]++Z)).toArray)::R1) S (λx h=>List.mem_cons_of_mem _ (mR x (hS x h))) (List.mem_cons_of_mem _ m4) (List.mem_cons_of_mem _ m7) he hl hv w (hw.perm swap23)) (λv M hM=>?_)
 obtain ⟨l,s',sl',N,q1,q2,q3,q4,q5,rfl⟩:=hM
 refine Sy.permS (M:=CRS gc gr gx tx (A++([Value.slice none 0 0]++Z)) sl' s'.e (R1++N)) swap23 ?_
 refine sp rfl<|sw 1 rfl (A++([v]++Z)).toArray (Writes.one f 66 v _ _ rfl kR kR kR q2.cells.1 q2.cells.2 (by rw [List.size_toArray,List.length_append,hA]; exact Nat.lt_add_of_pos_right (Nat.succ_pos _)) (set_mid hA)) ?_
 refine sG<|Sy.ret<|Sy.then_ret ?_
 exact Sy.retT0 rfl (CRS gc gr gx tx (A++([v]++Z)) sl' s'.e (R++N)) (λw h=>Sy.St.parts (ls:=[[(gc,126,#[.pointer none,ptr gr,.bool false]),(gx,tx,(A++([v]++Z)).toArray),(gr,231,#[sl',.int .i64 (s'.e:Int)])],R,[(g4,94,#[ptr gc])]++[(g7,217,#[.func (.func 119) #[] #[]])],N]) (ms:=[[(gc,126,#[.pointer none,ptr gr,.bool false]),(gx,tx,(A++([v]++Z)).toArray),(gr,231,#[sl',.int .i64 (s'.e:Int)])],R,N]) [[(g4,94,#[ptr gc])]++[(g7,217,#[.func (.func 119) #[] #[]])]] [0,1,3,2] (by kernel_rfl) (by rfl) (by rw [hR1]; simp) (by simp) h) (λ_=>⟨l,s',sl',[v],N,q1,rfl,λu hu=>by rw [List.mem_singleton.1 hu]; exact q2.cells.2,⟨v,rfl,q2⟩,q3,q4,q5,rfl⟩)
end
end Wr
end
section
namespace Wr
open Go.RowKit Sy
set_option maxRecDepth 100000
set_option maxHeartbeats 4000000
theorem eql_fe_in (W:World) (n m:Nat) (hn:n<Cu.K4) (hm:m<Cu.K4):(Op.equalIn 9998 71 (.agg (fcs n)) (.agg (fcs m))).run Tryz.prog W=.ok (decide (n=m)) W:=by
 have h:=run_equalIn_words W 9996 71 22 4 Tryz.underlying71 Tryz.underlying22 (λW=>by kernel_rfl) (wl n) (wl m) rfl rfl
 rw [wl_beq hn hm] at h
 exact h
theorem eql_bool_in (W:World) (a b:Bool):(Op.equalIn 9998 4 (.bool a) (.bool b)).run Tryz.prog W=.ok (a == b) W:=by
 cases a <;> cases b <;> kernel_rfl
theorem eql_pt_at (W:World) (x y:Nat) (i:Bool) (u v:Nat) (j:Bool) (hx:x<Cu.K4) (hy:y<Cu.K4) (hu:u<Cu.K4) (hv:v<Cu.K4) :
  (Op.equalIn 9999 73 (.agg (Cu.pcs x y i)) (.agg (Cu.pcs u v j))).run Tryz.prog W=.ok (Cu.sameB x y i u v j) W:=by
 have hS:Tryz.prog.underlying 73=some (.struct (Tryz.prog.fieldsOf 73)):=by kernel_rfl
 have hpp:Tryz.prog.stoodInHeld 73=false:=by kernel_rfl
 rw [show (9999:Nat)=9998+1 from rfl,run_equalIn_struct W 9998 73 _ _ hS hpp]
 simp only [Program.fieldsOf,Tryz.underlying73]
 have a1:∀ W,(part 71 (Cu.pcs x y i) 0).run Tryz.prog W=.ok (.agg (fcs x)) W:=λW=>by rw [Cu.part_fe,Cu.pcs_x]
 have a2:∀ W,(part 71 (Cu.pcs u v j) 0).run Tryz.prog W=.ok (.agg (fcs u)) W:=λW=>by rw [Cu.part_fe,Cu.pcs_x]
 have a3:∀ W,(part 71 (Cu.pcs x y i) 4).run Tryz.prog W=.ok (.agg (fcs y)) W:=λW=>by rw [Cu.part_fe,Cu.pcs_y]
 have a4:∀ W,(part 71 (Cu.pcs u v j) 4).run Tryz.prog W=.ok (.agg (fcs v)) W:=λW=>by rw [Cu.part_fe,Cu.pcs_y]
 have a5:∀ W,(part 4 (Cu.pcs x y i) 8).run Tryz.prog W=.ok (.bool i) W:=λW=>Cu.part_bool _ 8 i (Cu.pcs_i x y i) W
 have a6:∀ W,(part 4 (Cu.pcs u v j) 8).run Tryz.prog W=.ok (.bool j) W:=λW=>Cu.part_bool _ 8 j (Cu.pcs_i u v j) W
 have e1:∀ W,_:=λW=>eql_fe_in W x u hx hu
 have e2:∀ W,_:=λW=>eql_fe_in W y v hy hv
 have e3:∀ W,_:=λW=>eql_bool_in W i j
 unfold Cu.sameB
 generalize decide (x=u)=b1 at *
 generalize decide (y=v)=b2 at *
 generalize (i == j)=b3 at *
 cases b1 <;> cases b2 <;> cases b3 <;> simp [Op.eqFields,a1,a2,a3,a4,a5,a6,e1,e2,e3,Sem.run_bind,Sem.run_ite]
theorem part_u64 (cs:Array Value) (o:Nat) (n:Nat) (hb:cs[o]? = some (.int .u64 (n:Int))) (W:World):(part 22 cs o).run Tryz.prog W=.ok (.int .u64 (n:Int)) W:=by
 have h1:=Tryz.isAgg22
 simp [part,h1,hb,go_sem]
theorem part_pt (cs:Array Value) (o:Nat) (W:World):(part 73 cs o).run Tryz.prog W=.ok (.agg (cs.extract o (o+9))) W:=by
 have h1:=Tryz.isAgg73
 have h2:=Tryz.sizeOf73
 simp [part,h1,h2,go_sem]
theorem eql_u64_at (W:World) (a b:Int):(Op.equalIn 9999 22 (.int .u64 a) (.int .u64 b)).run Tryz.prog W=.ok (decide (a=b)) W:=by
 kernel_rfl
theorem run_eql_am (W:World) (a:MAmt) (hx:a.pt.x<Cu.K4) (hy:a.pt.y<Cu.K4):(binOp .eql 75 (.agg (cAM a).toArray) (.agg (cAM zAM).toArray)).run Tryz.prog W=.ok (.bool (nulAM a)) W:=by
 obtain ⟨bl,v,x,y,i⟩:=a
 dsimp only at hx hy
 have hS:Tryz.prog.underlying 75=some (.struct (Tryz.prog.fieldsOf 75)):=by kernel_rfl
 have hpp:Tryz.prog.stoodInHeld 75=false:=by kernel_rfl
 rw [run_eql_struct,show (10000:Nat)=9999+1 from rfl,run_equalIn_struct W 9999 75 _ _ hS hpp]
 simp only [Program.fieldsOf,Tryz.underlying75]
 have c1:((cAM ⟨bl,v,x,y,i⟩).toArray).extract 2 (2+9)=Cu.pcs x y i:=rfl
 have c2:((cAM zAM).toArray).extract 2 (2+9)=Cu.pcs 0 0 false:=rfl
 have a1:∀ W,(part 4 (cAM ⟨bl,v,x,y,i⟩).toArray 0).run Tryz.prog W=.ok (.bool bl) W:=λW=>Cu.part_bool _ 0 bl rfl W
 have a2:∀ W,(part 4 (cAM zAM).toArray 0).run Tryz.prog W=.ok (.bool false) W:=λW=>Cu.part_bool _ 0 false rfl W
 have a3:∀ W,(part 22 (cAM ⟨bl,v,x,y,i⟩).toArray 1).run Tryz.prog W=.ok (.int .u64 (v:Int)) W:=λW=>part_u64 _ 1 v rfl W
 have a4:∀ W,(part 22 (cAM zAM).toArray 1).run Tryz.prog W=.ok (.int .u64 0) W:=λW=>part_u64 _ 1 0 rfl W
 have a5:∀ W,(part 73 (cAM ⟨bl,v,x,y,i⟩).toArray 2).run Tryz.prog W=.ok (.agg (Cu.pcs x y i)) W:=λW=>by rw [part_pt,c1]
 have a6:∀ W,(part 73 (cAM zAM).toArray 2).run Tryz.prog W=.ok (.agg (Cu.pcs 0 0 false)) W:=λW=>by rw [part_pt,c2]
 have e1:∀ W,_:=λW=>Cu.eql_bool_at W bl false
 have e2:∀ W,_:=λW=>eql_u64_at W (v:Int) 0
 have e3:∀ W,_:=λW=>eql_pt_at W x y i 0 0 false hx hy (by decide) (by decide)
 have en:nulAM ⟨bl,v,x,y,i⟩=((bl == false) && (decide ((v:Int)=0) && Cu.sameB x y i 0 0 false)):=by
  unfold nulAM nulPT
  dsimp only
  rw [show decide (v=0)=decide ((v:Int)=0) from decide_eq_decide.2 (by omega)]
  cases bl <;> simp
 rw [en]
 generalize decide ((v:Int)=0)=b2 at *
 generalize Cu.sameB x y i 0 0 false=b3 at *
 generalize (bl == false)=b1 at *
 cases b1 <;> cases b2 <;> cases b3 <;> simp [Op.eqFields,a1,a2,a3,a4,a5,a6,e1,e2,e3,Sem.run_bind,Sem.run_ite]
theorem eql_am (w:World) (F:Slots) (o:Oper) (x y:Operand) (a:MAmt) {yt:TypeId} (ho:o.op=.binOp .eql 75 x y yt) (hx:evF F x=.agg (cAM a).toArray) (hy:evF F y=.agg (cAM zAM).toArray) (h1:a.pt.x<Cu.K4) (h2:a.pt.y<Cu.K4):(execOp (evF F) o).run Tryz.prog w=.ok (.value (.bool (nulAM a))) w:=by
 have g1:(eqGuard .eql 75 x y (.agg (cAM a).toArray) (.agg (cAM zAM).toArray)).run Tryz.prog w=.ok () w:=by go_simp
 have g2:=run_eql_am w a h1 h2
 unfold execOp
 simp only [ho,hx,hy,Sem.run_bind,g1,g2,Result.andThen_ok,Sem.run_pure]
theorem eqlSC (w:World) (F:Slots) (o:Oper) (x y:Operand) (n m:Nat) {yt:TypeId} (ho:o.op=.binOp .eql 76 x y yt) (hx:evF F x=fv n) (hy:evF F y=fv m) (hn:n<Cu.K4) (hm:m<Cu.K4):(execOp (evF F) o).run Tryz.prog w=.ok (.value (.bool (decide (n=m)))) w:=by
 have h1:=Sc.run_eqGuard_fv .eql x y n m w
 have h2:=Sc.run_eql_fv w n m hn hm
 unfold execOp
 simp only [ho,hx,hy,Sem.run_bind,h1,h2,Result.andThen_ok,Sem.run_pure]
theorem noIssue_any (w:World) (i:MIs) (A:Option Addr) (n cp:Nat) (hn:i.range.length=n) (d1:i.amount.value<18446744073709551616∧i.amount.pt.x<Cu.K4∧i.amount.pt.y<Cu.K4) (h3:i.tokens<18446744073709551616) (h4:i.entropy.length=32) (h5:i.blind<Cu.K4) :
  Calls Tryz.prog 178 #[.agg (cIS i (.slice A n cp)).toArray] w (Gets w (.bool (nulIS i))):=by
 obtain ⟨kd,am,rg,tk,en,sc⟩:=i
 dsimp only at hn d1 h3 h4 h5
 have m4:(en.map bv).length=32:=by rw [List.length_map,h4]
 have hlen:(cIS ⟨kd,am,rg,tk,en,sc⟩ (.slice A n cp)).length=50:=by simp only [cIS,cAM,List.length_append,m4,fws_len,lPT_len]; rfl
 have hnul:nulIS ⟨kd,am,rg,tk,en,sc⟩=(nulAM am && (decide (n=0) && (decide (tk=0) && (decide (en=z32) && decide (sc=0))))):=by unfold nulIS; dsimp only; rw [hn]
 refine Sy.enter (args:=[.agg (cIS ⟨kd,am,rg,tk,en,sc⟩ (.slice A n cp)).toArray]) Tryz.func178 rfl kL ?_
 refine sC ?_
 refine sM 78 (cIS ⟨kd,am,rg,tk,en,sc⟩ (.slice A n cp)).toArray (λg1=>?_) kR (λw=>run_boxR rfl rfl (by kernel_rfl) hlen w)
 refine sP (.bool false) ?_
 have X0:XAt (rdC (Base.of w) [(g1,78,(cIS ⟨kd,am,rg,tk,en,sc⟩ (.slice A n cp)).toArray)]) g1 0 (cIS ⟨kd,am,rg,tk,en,sc⟩ (.slice A n cp)):=λi u hu=>.inr ⟨_,_,List.mem_singleton.2 rfl,by rw [Nat.zero_add,List.getElem?_toArray]; exact hu⟩
 have X1:XAt (rdC (Base.of w) [(g1,78,(cIS ⟨kd,am,rg,tk,en,sc⟩ (.slice A n cp)).toArray)]) g1 1 (cAM am++([.slice A n cp]++([.int .u64 (tk:Int)]++(en.map bv++Cu.fws sc)))):=X0.right (n:=1) rfl
 have X2:XAt (rdC (Base.of w) [(g1,78,(cIS ⟨kd,am,rg,tk,en,sc⟩ (.slice A n cp)).toArray)]) g1 12 ([.slice A n cp]++([.int .u64 (tk:Int)]++(en.map bv++Cu.fws sc))):=X1.right (n:=11) rfl
 have X3:XAt (rdC (Base.of w) [(g1,78,(cIS ⟨kd,am,rg,tk,en,sc⟩ (.slice A n cp)).toArray)]) g1 13 ([.int .u64 (tk:Int)]++(en.map bv++Cu.fws sc)):=X2.right (n:=1) rfl
 have X4:XAt (rdC (Base.of w) [(g1,78,(cIS ⟨kd,am,rg,tk,en,sc⟩ (.slice A n cp)).toArray)]) g1 14 (en.map bv++Cu.fws sc):=X3.right (n:=1) rfl
 have X5:XAt (rdC (Base.of w) [(g1,78,(cIS ⟨kd,am,rg,tk,en,sc⟩ (.slice A n cp)).toArray)]) g1 46 (Cu.fws sc):=X4.right m4
 refine sA ?_
 obtain ⟨b1,hb1⟩:∃ z:Bool,z=nulAM am:=⟨_,rfl⟩
 refine sP (.pointer (some ⟨g1,1,none⟩))<|sS (.agg (cAM am).toArray) (rowC (R:=[(g1,78,(cIS ⟨kd,am,rg,tk,en,sc⟩ (.slice A n cp)).toArray)]) (g:=g1) (f:=1) (k:=11) (cs:=cAM am) X1.left (λy hy=>hy) rfl rfl Tryz.underlying75)<|sP (.agg (cAM zAM).toArray)<|sS (.bool b1) (Quiet.pure (λw=>by rw [hb1]; exact eql_am w _ _ _ _ am rfl rfl rfl d1.2.1 d1.2.2))<|sp rfl ?_
 cases b1
 case' false =>
  refine sN<|sN<|sN<|sN<|sP (.bool false)<|sp rfl<|sN<|sN<|sN<|sP (.bool false)<|sp rfl<|sN<|sN<|sN<|sN<|sP (.bool false)<|sp rfl<|sN<|sN<|sN<|sN<|sP (.bool false) ?_
  refine sp rfl ?_
  refine sG<|Sy.ret ?_
  rw [hnul, ← hb1]
  exact rV (.bool false) rfl
 obtain ⟨b2,hb2⟩:∃ z:Bool,z=decide (n=0):=⟨_,rfl⟩
 refine sP (.pointer (some ⟨g1,12,none⟩))<|sS (.slice A n cp) (cellC (R:=[(g1,78,(cIS ⟨kd,am,rg,tk,en,sc⟩ (.slice A n cp)).toArray)]) (g:=g1) (f:=12) X2.one (λy hy=>hy) rfl Tryz.underlying29)<|sP (.int .i64 (n:Int))<|sS (.bool b2) (Quiet.pure (exec_int .eql _ _ _ .i64 _ _ _ rfl rfl rfl (int_eql _ _ _ _ _ (by rw [hb2]; exact decide_eq_decide.2 (by omega)))))<|sP (.bool b2)<|sp rfl ?_
 cases b2
 case' false =>
  refine sN<|sN<|sN<|sP (.bool false)<|sp rfl<|sN<|sN<|sN<|sN<|sP (.bool false)<|sp rfl<|sN<|sN<|sN<|sN<|sP (.bool false) ?_
  refine sp rfl ?_
  refine sG<|Sy.ret ?_
  rw [hnul, ← hb1, ← hb2]
  exact rV (.bool false) rfl
 obtain ⟨b3,hb3⟩:∃ z:Bool,z=decide (tk=0):=⟨_,rfl⟩
 refine sP (.pointer (some ⟨g1,13,none⟩))<|sS (.int .u64 (tk:Int)) (cellC (R:=[(g1,78,(cIS ⟨kd,am,rg,tk,en,sc⟩ (.slice A n cp)).toArray)]) (g:=g1) (f:=13) X3.one (λy hy=>hy) rfl Tryz.underlying22)<|sS (.bool b3) (Quiet.pure (exec_int .eql _ _ _ .u64 _ _ _ rfl rfl rfl (int_eql _ _ _ _ _ (by rw [hb3]; exact decide_eq_decide.2 (by omega)))))<|sP (.bool b3)<|sp rfl ?_
 cases b3
 case' false =>
  refine sN<|sN<|sN<|sN<|sP (.bool false)<|sp rfl<|sN<|sN<|sN<|sN<|sP (.bool false) ?_
  refine sp rfl ?_
  refine sG<|Sy.ret ?_
  rw [hnul, ← hb1, ← hb2, ← hb3]
  exact rV (.bool false) rfl
 obtain ⟨b4,hb4⟩:∃ z:Bool,z=decide (en=z32):=⟨_,rfl⟩
 refine sP (.pointer (some ⟨g1,14,none⟩))<|sS (.agg (en.map bv).toArray) (rowC (R:=[(g1,78,(cIS ⟨kd,am,rg,tk,en,sc⟩ (.slice A n cp)).toArray)]) (g:=g1) (f:=14) (k:=32) (cs:=en.map bv) X4.left (λy hy=>hy) m4 rfl Tryz.underlying28)<|sP (.agg (z32.map bv).toArray)<|sS (.bool b4) (Quiet.pure (λw=>by rw [hb4]; exact eql_dgs w _ _ _ _ en z32 h4 rfl rfl rfl rfl))<|sP (.bool b4)<|sp rfl ?_
 cases b4
 case' false =>
  refine sN<|sN<|sN<|sN<|sP (.bool false) ?_
  refine sp rfl ?_
  refine sG<|Sy.ret ?_
  rw [hnul, ← hb1, ← hb2, ← hb3, ← hb4]
  exact rV (.bool false) rfl
 obtain ⟨b5,hb5⟩:∃ z:Bool,z=decide (sc=0):=⟨_,rfl⟩
 refine sP (.pointer (some ⟨g1,46,none⟩))<|sS (fv sc) (rowC (R:=[(g1,78,(cIS ⟨kd,am,rg,tk,en,sc⟩ (.slice A n cp)).toArray)]) (g:=g1) (f:=46) (k:=4) (cs:=Cu.fws sc) X5 (λy hy=>hy) rfl rfl Tryz.underlying76)<|sP (fv 0)<|sS (.bool b5) (Quiet.pure (λw=>by rw [hb5]; exact eqlSC w _ _ _ _ sc 0 rfl rfl rfl h5 (by decide)))<|sP (.bool b5) ?_
 refine sp rfl ?_
 refine sG<|Sy.ret ?_
 rw [hnul, ← hb1, ← hb2, ← hb3, ← hb4, ← hb5]
 exact rV (.bool b5) rfl
theorem noPeg_any (w:World) (p:MPg) (A1 A2 A3:Option Addr) (n1 c1 n2 c2 n3 c3:Nat) (k1:p.tx.length=n1) (k2:p.path.length=n2) (k3:p.script.length=n3) (h0:p.header.length=32) :
  Calls Tryz.prog 116 #[.agg (cPG p (.slice A1 n1 c1) (.slice A2 n2 c2) (.slice A3 n3 c3)).toArray] w (Gets w (.bool (nulPG p))):=by
 obtain ⟨hd,tx,pl,mn,pa,sq⟩:=p
 dsimp only at k1 k2 k3 h0
 have m0:(hd.map bv).length=32:=by rw [List.length_map,h0]
 have hlen:(cPG ⟨hd,tx,pl,mn,pa,sq⟩ (.slice A1 n1 c1) (.slice A2 n2 c2) (.slice A3 n3 c3)).length=37:=by simp only [cPG,List.length_append,m0]; rfl
 have hnul:nulPG ⟨hd,tx,pl,mn,pa,sq⟩=(decide (hd=z32) && (decide (n1=0) && (decide (pl=0) && (decide (mn=0) && (decide (n2=0) && decide (n3=0)))))):=by unfold nulPG; dsimp only; rw [k1,k2,k3]
 refine Sy.enter (args:=[.agg (cPG ⟨hd,tx,pl,mn,pa,sq⟩ (.slice A1 n1 c1) (.slice A2 n2 c2) (.slice A3 n3 c3)).toArray]) Tryz.func116 rfl kL ?_
 refine sC ?_
 refine sM 81 (cPG ⟨hd,tx,pl,mn,pa,sq⟩ (.slice A1 n1 c1) (.slice A2 n2 c2) (.slice A3 n3 c3)).toArray (λg1=>?_) kR (λw=>run_boxR rfl rfl (by kernel_rfl) hlen w)
 refine sP (.bool false) ?_
 have X0:XAt (rdC (Base.of w) [(g1,81,(cPG ⟨hd,tx,pl,mn,pa,sq⟩ (.slice A1 n1 c1) (.slice A2 n2 c2) (.slice A3 n3 c3)).toArray)]) g1 0 (cPG ⟨hd,tx,pl,mn,pa,sq⟩ (.slice A1 n1 c1) (.slice A2 n2 c2) (.slice A3 n3 c3)):=λi u hu=>.inr ⟨_,_,List.mem_singleton.2 rfl,by rw [Nat.zero_add,List.getElem?_toArray]; exact hu⟩
 have X1:XAt (rdC (Base.of w) [(g1,81,(cPG ⟨hd,tx,pl,mn,pa,sq⟩ (.slice A1 n1 c1) (.slice A2 n2 c2) (.slice A3 n3 c3)).toArray)]) g1 32 ([.slice A1 n1 c1]++([.int .u32 (pl:Int)]++([.int .u32 (mn:Int)]++([.slice A2 n2 c2]++([.slice A3 n3 c3]))))):=X0.right m0
 have X2:XAt (rdC (Base.of w) [(g1,81,(cPG ⟨hd,tx,pl,mn,pa,sq⟩ (.slice A1 n1 c1) (.slice A2 n2 c2) (.slice A3 n3 c3)).toArray)]) g1 33 ([.int .u32 (pl:Int)]++([.int .u32 (mn:Int)]++([.slice A2 n2 c2]++([.slice A3 n3 c3])))):=X1.right (n:=1) rfl
 have X3:XAt (rdC (Base.of w) [(g1,81,(cPG ⟨hd,tx,pl,mn,pa,sq⟩ (.slice A1 n1 c1) (.slice A2 n2 c2) (.slice A3 n3 c3)).toArray)]) g1 34 ([.int .u32 (mn:Int)]++([.slice A2 n2 c2]++([.slice A3 n3 c3]))):=X2.right (n:=1) rfl
 have X4:XAt (rdC (Base.of w) [(g1,81,(cPG ⟨hd,tx,pl,mn,pa,sq⟩ (.slice A1 n1 c1) (.slice A2 n2 c2) (.slice A3 n3 c3)).toArray)]) g1 35 ([.slice A2 n2 c2]++([.slice A3 n3 c3])):=X3.right (n:=1) rfl
 have X5:XAt (rdC (Base.of w) [(g1,81,(cPG ⟨hd,tx,pl,mn,pa,sq⟩ (.slice A1 n1 c1) (.slice A2 n2 c2) (.slice A3 n3 c3)).toArray)]) g1 36 ([.slice A3 n3 c3]):=X4.right (n:=1) rfl
 refine sA ?_
 obtain ⟨b1,hb1⟩:∃ z:Bool,z=decide (hd=z32):=⟨_,rfl⟩
 refine sP (.pointer (some ⟨g1,0,none⟩))<|sS (.agg (hd.map bv).toArray) (rowC (R:=[(g1,81,(cPG ⟨hd,tx,pl,mn,pa,sq⟩ (.slice A1 n1 c1) (.slice A2 n2 c2) (.slice A3 n3 c3)).toArray)]) (g:=g1) (f:=0) (k:=32) (cs:=hd.map bv) X0.left (λy hy=>hy) m0 rfl Tryz.underlying28)<|sP (.agg (z32.map bv).toArray)<|sS (.bool b1) (Quiet.pure (λw=>by rw [hb1]; exact eql_dgs w _ _ _ _ hd z32 h0 rfl rfl rfl rfl))<|sp rfl ?_
 cases b1
 case' false =>
  refine sN<|sN<|sN<|sN<|sP (.bool false)<|sp rfl<|sN<|sN<|sN<|sP (.bool false)<|sp rfl<|sN<|sN<|sN<|sP (.bool false)<|sp rfl<|sN<|sN<|sN<|sN<|sP (.bool false)<|sp rfl<|sN<|sN<|sN<|sN<|sP (.bool false) ?_
  refine sp rfl ?_
  refine sG<|Sy.ret ?_
  rw [hnul, ← hb1]
  exact rV (.bool false) rfl
 obtain ⟨b2,hb2⟩:∃ z:Bool,z=decide (n1=0):=⟨_,rfl⟩
 refine sP (.pointer (some ⟨g1,32,none⟩))<|sS (.slice A1 n1 c1) (cellC (R:=[(g1,81,(cPG ⟨hd,tx,pl,mn,pa,sq⟩ (.slice A1 n1 c1) (.slice A2 n2 c2) (.slice A3 n3 c3)).toArray)]) (g:=g1) (f:=32) X1.one (λy hy=>hy) rfl Tryz.underlying29)<|sP (.int .i64 (n1:Int))<|sS (.bool b2) (Quiet.pure (exec_int .eql _ _ _ .i64 _ _ _ rfl rfl rfl (int_eql _ _ _ _ _ (by rw [hb2]; exact decide_eq_decide.2 (by omega)))))<|sP (.bool b2)<|sp rfl ?_
 cases b2
 case' false =>
  refine sN<|sN<|sN<|sP (.bool false)<|sp rfl<|sN<|sN<|sN<|sP (.bool false)<|sp rfl<|sN<|sN<|sN<|sN<|sP (.bool false)<|sp rfl<|sN<|sN<|sN<|sN<|sP (.bool false) ?_
  refine sp rfl ?_
  refine sG<|Sy.ret ?_
  rw [hnul, ← hb1, ← hb2]
  exact rV (.bool false) rfl
 obtain ⟨b3,hb3⟩:∃ z:Bool,z=decide (pl=0):=⟨_,rfl⟩
 refine sP (.pointer (some ⟨g1,33,none⟩))<|sS (.int .u32 (pl:Int)) (cellC (R:=[(g1,81,(cPG ⟨hd,tx,pl,mn,pa,sq⟩ (.slice A1 n1 c1) (.slice A2 n2 c2) (.slice A3 n3 c3)).toArray)]) (g:=g1) (f:=33) X2.one (λy hy=>hy) rfl Tryz.underlying67)<|sS (.bool b3) (Quiet.pure (exec_int .eql _ _ _ .u32 _ _ _ rfl rfl rfl (int_eql _ _ _ _ _ (by rw [hb3]; exact decide_eq_decide.2 (by omega)))))<|sP (.bool b3)<|sp rfl ?_
 cases b3
 case' false =>
  refine sN<|sN<|sN<|sP (.bool false)<|sp rfl<|sN<|sN<|sN<|sN<|sP (.bool false)<|sp rfl<|sN<|sN<|sN<|sN<|sP (.bool false) ?_
  refine sp rfl ?_
  refine sG<|Sy.ret ?_
  rw [hnul, ← hb1, ← hb2, ← hb3]
  exact rV (.bool false) rfl
 obtain ⟨b4,hb4⟩:∃ z:Bool,z=decide (mn=0):=⟨_,rfl⟩
 refine sP (.pointer (some ⟨g1,34,none⟩))<|sS (.int .u32 (mn:Int)) (cellC (R:=[(g1,81,(cPG ⟨hd,tx,pl,mn,pa,sq⟩ (.slice A1 n1 c1) (.slice A2 n2 c2) (.slice A3 n3 c3)).toArray)]) (g:=g1) (f:=34) X3.one (λy hy=>hy) rfl Tryz.underlying67)<|sS (.bool b4) (Quiet.pure (exec_int .eql _ _ _ .u32 _ _ _ rfl rfl rfl (int_eql _ _ _ _ _ (by rw [hb4]; exact decide_eq_decide.2 (by omega)))))<|sP (.bool b4)<|sp rfl ?_
 cases b4
 case' false =>
  refine sN<|sN<|sN<|sN<|sP (.bool false)<|sp rfl<|sN<|sN<|sN<|sN<|sP (.bool false) ?_
  refine sp rfl ?_
  refine sG<|Sy.ret ?_
  rw [hnul, ← hb1, ← hb2, ← hb3, ← hb4]
  exact rV (.bool false) rfl
 obtain ⟨b5,hb5⟩:∃ z:Bool,z=decide (n2=0):=⟨_,rfl⟩
 refine sP (.pointer (some ⟨g1,35,none⟩))<|sS (.slice A2 n2 c2) (cellC (R:=[(g1,81,(cPG ⟨hd,tx,pl,mn,pa,sq⟩ (.slice A1 n1 c1) (.slice A2 n2 c2) (.slice A3 n3 c3)).toArray)]) (g:=g1) (f:=35) X4.one (λy hy=>hy) rfl Tryz.underlying79)<|sP (.int .i64 (n2:Int))<|sS (.bool b5) (Quiet.pure (exec_int .eql _ _ _ .i64 _ _ _ rfl rfl rfl (int_eql _ _ _ _ _ (by rw [hb5]; exact decide_eq_decide.2 (by omega)))))<|sP (.bool b5)<|sp rfl ?_
 cases b5
 case' false =>
  refine sN<|sN<|sN<|sN<|sP (.bool false) ?_
  refine sp rfl ?_
  refine sG<|Sy.ret ?_
  rw [hnul, ← hb1, ← hb2, ← hb3, ← hb4, ← hb5]
  exact rV (.bool false) rfl
 obtain ⟨b6,hb6⟩:∃ z:Bool,z=decide (n3=0):=⟨_,rfl⟩
 refine sP (.pointer (some ⟨g1,36,none⟩))<|sS (.slice A3 n3 c3) (cellC (R:=[(g1,81,(cPG ⟨hd,tx,pl,mn,pa,sq⟩ (.slice A1 n1 c1) (.slice A2 n2 c2) (.slice A3 n3 c3)).toArray)]) (g:=g1) (f:=36) X5.one (λy hy=>hy) rfl Tryz.underlying29)<|sP (.int .i64 (n3:Int))<|sS (.bool b6) (Quiet.pure (exec_int .eql _ _ _ .i64 _ _ _ rfl rfl rfl (int_eql _ _ _ _ _ (by rw [hb6]; exact decide_eq_decide.2 (by omega)))))<|sP (.bool b6) ?_
 refine sp rfl ?_
 refine sG<|Sy.ret ?_
 rw [hnul, ← hb1, ← hb2, ← hb3, ← hb4, ← hb5, ← hb6]
 exact rV (.bool b6) rfl
theorem scalar_w:PutC 179 4 repSC okSC encSC (λ_=>32):=λw0 gc gw gx f bad s R b cs n hx _ hc hb hl w hw=>by
 obtain ⟨rfl,h1⟩:=hx
 obtain ⟨ok,hok⟩:∃ ok,ok=okSC n:=⟨_,rfl⟩
 obtain ⟨E,hE⟩:∃ E,E=encSC n:=⟨_,rfl⟩
 have hEl:E.length=32:=by rw [hE]; exact bytesS_length _
 have hEm:(E.map bv).length=32:=by rw [List.length_map,hEl]
 have hp:n%Sc.pM<Cu.K4:=Nat.lt_trans (Nat.mod_lt _ (by decide)) (by decide)
 rw [← hok, ← hE]
 refine Sy.enterT (args:=[ptr gc,.pointer (some ⟨gx,f,none⟩)]) hw Tryz.func179 rfl kL ?_
 have ld:∀ {F:Slots} {L:Blocks} {o:Oper} {x:Operand},(∀ y∈R,y∈L)→o.op=.load 76 x→evF F x=.pointer (some ⟨gx,f,none⟩)→Quiet Tryz.prog w0.inn F L o (fv n):=λhR ho hx=>rowC (R:=R) (cs:=Cu.fws n) hc hR rfl ho Tryz.underlying76 hx
 refine Sy.seq ?_
 refine Sy.regionD (λ_=>false) kR ?_
 refine sa 0 rfl rfl<|sa 1 rfl rfl<|sD 2 rfl (fv n) (ld inCW rfl rfl)<|sD 3 rfl (fv (n%Sc.pM)) (qF 213 #[fv n] (λw=>Sc.norm_any w n h1))<|sa 4 rfl rfl<|sa 5 rfl rfl<|sD 6 rfl (fv n) (ld inCW rfl rfl)<|sv 7 rfl (.bool ok) (λw=>by rw [hok]; exact eqlSC w _ _ _ _ (n%Sc.pM) n rfl rfl rfl hp h1)<|sz 8 rfl rfl ?_
 refine sE ?_
 refine sB ?_
 refine sp rfl<|sp rfl<|sS (fv n) (ld inCW rfl rfl)<|sS (.agg (E.map bv).toArray) (qF 214 #[fv n] (λw=>by rw [hE]; exact Sc.bytes_any w n h1)) ?_
 refine sM 27 ((List.replicate 32 (0:UInt8)).map bv).toArray (λg4=>?_)
 refine Sy.permS List.perm_append_comm ?_
 refine sw 0 rfl (E.map bv).toArray (Writes.row 27 (E.map bv) 32 _ _ rfl kR kR kR hEm (by kernel_rfl) (ones_bW E)) ?_
 refine Sy.permS (M:=CWS gc gw bad s (R++[(g4,27,(E.map bv).toArray)])) (permB.trans (List.Perm.of_eq eqCW)) ?_
 refine sA ?_
 refine sp rfl<|sP (.slice (some ⟨g4,0,none⟩) 32 32) ?_
 refine Sy.callT (λw hw=>raw_w w0.inn gc gw bad s (R++[(g4,27,(E.map bv).toArray)]) b E _ ((memX lastR).byt hEl (by decide)) hb (by rw [hEl]; omega) w hw) (λu M hM=>?_)
 obtain ⟨s1,bad1,b1,q1,q2,rfl⟩:=hM
 rw [hEl] at q1
 refine sG<|Sy.seq<|sC ?_
 refine sp rfl<|sS (.bool false) (qg (λw hw=>reads_w w0.inn gc _ _ (List.mem_cons_self ..) w hw)) ?_
 refine sG<|sU<|Sy.skip<|Sy.then_<|Sy.region ?_
 refine sp rfl<|sp rfl ?_
 refine Sy.callT (λw hw=>must_w w0.inn gc gw bad1 ok s1 (R++[(g4,27,(E.map bv).toArray)]) w hw) (λu M hM=>?_)
 subst hM
 refine Sy.nil ?_
 have q:=q1.then_ (Wrote.must ok bad1 b1)
 rw [Bool.true_and,List.append_nil] at q
 exact Sy.retT0 rfl (CWS gc gw (bad1 || !ok) s1 R) (λ_ h=>dropR h) (λ_=>⟨s1,bad1 || !ok,b1,q,q2,rfl⟩)
theorem scalar_r:GetC 179 4 (Cu.fws 0) repSC rdSC:=λw0 gc gr gx f tx A Z sl s R S hS hA he hl hv w hw=>by
 obtain ⟨E,hE⟩:∃ E,E=encSC 0:=⟨_,rfl⟩
 have hEl:E.length=32:=by rw [hE]; exact bytesS_length _
 have hEm:(E.map bv).length=32:=by rw [List.length_map,hEl]
 refine Sy.enterT (args:=[ptr gc,.pointer (some ⟨gx,f,none⟩)]) hw Tryz.func179 rfl kL ?_
 have ld:∀ {F:Slots} {o:Oper} {x':Operand},o.op=.load 76 x'→evF F x'=.pointer (some ⟨gx,f,none⟩)→Quiet Tryz.prog w0.inn F (CRS gc gr gx tx (A++(Cu.fws 0++Z)) sl s.e R) o (fv 0):=λho hx=>Quiet.mid 1 gx f 4 tx 76 (A++(Cu.fws 0++Z)) (Cu.fws 0) _ _ ho hx rfl Tryz.underlying76 rfl kR (mid_cells hA rfl) (by rw [List.length_append,List.length_append,hA,fws_len]; omega)
 refine Sy.seq ?_
 refine Sy.regionD (λ_=>false) kR ?_
 refine sa 0 rfl rfl<|sa 1 rfl rfl<|sD 2 rfl (fv 0) (ld rfl rfl)<|sD 3 rfl (fv (0%Sc.pM)) (qF 213 #[fv 0] (λw=>Sc.norm_any w 0 (by decide)))<|sa 4 rfl rfl<|sa 5 rfl rfl<|sD 6 rfl (fv 0) (ld rfl rfl)<|sv 7 rfl (.bool true) (λw=>eqlSC w _ _ _ _ 0 0 rfl rfl rfl (by decide) (by decide))<|sz 8 rfl rfl ?_
 refine sE ?_
 refine sB ?_
 refine sp rfl<|sp rfl<|sS (fv 0) (ld rfl rfl)<|sS (.agg (E.map bv).toArray) (qF 214 #[fv 0] (λw=>by rw [hE]; exact Sc.bytes_any w 0 (by decide))) ?_
 refine sM 27 ((List.replicate 32 (0:UInt8)).map bv).toArray (λg4=>?_)
 refine Sy.permS List.perm_append_comm ?_
 refine sw 0 rfl ([]++(E.map bv++[])).toArray (by rw [List.nil_append,List.append_nil]; exact Writes.row 27 (E.map bv) 32 _ _ rfl kR kR kR hEm (by kernel_rfl) (ones_bW E)) ?_
 refine sA ?_
 refine sp rfl<|sP (.slice (some ⟨g4,0,none⟩) 32 32) ?_
 have p4:((g4,27,([]++(E.map bv++[])).toArray)::CRS gc gr gx tx (A++(Cu.fws 0++Z)) sl s.e R).Perm (CRS gc gr g4 27 ([]++(E.map bv++[])) sl s.e ((gx,tx,(A++(Cu.fws 0++Z)).toArray)::R)):=perm4
 refine Sy.permS p4 ?_
 refine Sy.callT (λw hw=>rawN_r 32 (by decide) (by decide) w0.inn gc gr g4 0 27 [] [] E hEl sl s ((gx,tx,(A++(Cu.fws 0++Z)).toArray)::R) S (λb h=>List.mem_cons_of_mem _ (hS b h)) rfl he hl hv w hw) (λu M hM=>?_)
 obtain ⟨x,s1,sl1,cs1,N1,a1,a2,a3,⟨rfl,a4⟩,a5,a6,a7,rfl⟩:=hM
 obtain ⟨m,hm⟩:∃ m,m=(Sc.readS x).1:=⟨_,rfl⟩
 obtain ⟨ok,hok⟩:∃ m,m=(Sc.readS x).2:=⟨_,rfl⟩
 have hmK:m<Cu.K4:=by
  rw [hm]
  unfold Sc.readS
  split
  ·exact valB_lt32 x a4
  ·show 0<Cu.K4; decide
 refine sG<|Sy.seq<|sC ?_
 refine sp rfl<|sS (.bool true) (qg (λw hw=>reads_r w0.inn gc gr _ _ (List.mem_cons_self ..) w hw)) ?_
 refine sG<|sT<|Sy.region ?_
 refine sp rfl<|sS (.agg (x.map bv).toArray) (Quiet.mid 1 g4 0 32 27 27 ([]++(x.map bv++[])) (x.map bv) _ _ rfl kR rfl Tryz.underlying27 rfl kR (mid_cells rfl (by rw [List.length_map,a4])) (by simp only [List.length_append,List.length_map,List.length_nil]; omega))<|sS (.tuple #[fv m,.bool ok]) (qF 215 #[.agg (x.map bv).toArray] (λw=>by rw [hm,hok]; exact Sc.read_any w x a4))<|sp rfl<|sp rfl<|sp rfl<|sp rfl<|sw 3 rfl (A++(Cu.fws m++Z)).toArray (wMd 76 A (Cu.fws 0) (Cu.fws m) Z 4 f _ _ rfl kR kR kR hA rfl rfl (fws_one m))<|sp rfl ?_
 refine Sy.nil<|Sy.then_ ?_
 obtain ⟨e2,he2⟩:∃ e2,e2=if ok=true then s1.e else if s1.e=0 then 120 else s1.e:=⟨_,rfl⟩
 have hA2:After rdSC s m ⟨s1.rest,e2⟩:=a1.bind (by
  rw [← hm, ← hok]
  cases ok
  ·exact After.mustN m (by show e2≠0; rw [he2,if_neg (by decide)]; split <;> omega)
  ·have e:(⟨s1.rest,e2⟩:RS)=s1:=by rw [he2,if_pos rfl]
   rw [e]
   exact After.ret m s1)
 have he22:e2≤200:=by rw [he2]; split; exact a5; split <;> omega
 have p5:(CRS gc gr g4 27 ([]++(x.map bv++[])) sl1 s1.e ((gx,tx,(A++(Cu.fws m++Z)).toArray)::(R++N1))).Perm (CRN gc gr sl1 s1.e ((g4,27,([]++(x.map bv++[])).toArray)::((gx,tx,(A++(Cu.fws m++Z)).toArray)::(R++N1)))):=swap23
 refine Sy.region ?_
 refine sp rfl<|sp rfl ?_
 refine Sy.permS p5 ?_
 refine Sy.callT (λw hw=>must_r w0.inn gc gr sl1 s1.e a5 ((g4,27,([]++(x.map bv++[])).toArray)::((gx,tx,(A++(Cu.fws m++Z)).toArray)::(R++N1))) ok w hw) (λu M hM=>?_)
 subst hM
 rw [← he2]
 refine Sy.nil ?_
 exact Sy.retT0 rfl (CRS gc gr gx tx (A++(Cu.fws m++Z)) sl1 e2 (R++N1)) (λw h=>Sy.St.parts (ls:=[[(gc,126,#[.pointer none,ptr gr,.bool false])],[(gr,231,#[sl1,.int .i64 (e2:Int)])],[(g4,27,([]++(x.map bv++[])).toArray)],[(gx,tx,(A++(Cu.fws m++Z)).toArray)],R++N1]) (ms:=[[(gc,126,#[.pointer none,ptr gr,.bool false])],[(gx,tx,(A++(Cu.fws m++Z)).toArray)],[(gr,231,#[sl1,.int .i64 (e2:Int)])],R++N1]) [[(g4,27,([]++(x.map bv++[])).toArray)]] [0,3,1,4,2] (by kernel_rfl) (by rfl) (by simp) (by simp) h) (λ_=>⟨m,⟨s1.rest,e2⟩,sl1,Cu.fws m,N1,hA2,rfl,fws_one m,⟨rfl,hmK⟩,he22,a6,a7,rfl⟩)
end Wr
end
section
namespace Wr
open Go.RowKit Sy
set_option maxRecDepth 100000
set_option maxHeartbeats 4000000
theorem issue_w:PutO 115 50 repIS okIS encIS wtIS:=λw0 gc gw gx f bad s R b cs x hx _ hc hb hl w hw=>by
 obtain ⟨z,am,rg,tk,en,sc⟩:=x
 obtain ⟨vr,rfl,d1,h2,h3,h4,h5⟩:=hx
 dsimp only at d1 h2 h3 h4 h5
 unfold wtIS at hl
 dsimp only at hl
 have m4:(en.map bv).length=32:=by rw [List.length_map,h4]
 have hlen:(cIS ⟨z,am,rg,tk,en,sc⟩ vr).length=50:=by simp only [cIS,cAM,List.length_append,m4,fws_len,lPT_len]; rfl
 have c0:OwnAt R gx f ([.int .i64 z]++(cAM am++([vr]++([.int .u64 (tk:Int)]++(en.map bv++Cu.fws sc))))):=hc
 have c1:OwnAt R gx (f+1) (cAM am++([vr]++([.int .u64 (tk:Int)]++(en.map bv++Cu.fws sc)))):=c0.right (n:=1) rfl
 have c2:OwnAt R gx (f+12) ([vr]++([.int .u64 (tk:Int)]++(en.map bv++Cu.fws sc))):=by have q:=c1.right (n:=11) rfl; rwa [Nat.add_assoc] at q
 have c3:OwnAt R gx (f+13) ([.int .u64 (tk:Int)]++(en.map bv++Cu.fws sc)):=c2.right (n:=1) rfl
 have c4:OwnAt R gx (f+14) (en.map bv++Cu.fws sc):=c3.right (n:=1) rfl
 have c5:OwnAt R gx (f+46) (Cu.fws sc):=by have q:=c4.right m4; rwa [Nat.add_assoc] at q
 have X0:rdC w0.inn R gx f (.int .i64 z):=(c0.at w0.inn).one
 refine Sy.enterT (args:=[ptr gc,.pointer (some ⟨gx,f,none⟩)]) hw Tryz.func115 rfl kL ?_
 refine sC ?_
 refine sp rfl<|sp rfl<|sp rfl<|sP (.pointer (some ⟨gx,f,none⟩)) ?_
 refine Sy.callT (λw hw=>octet_w w0.inn gc gw gx f bad s R b z X0 hb (by omega) w hw) (λu M hM=>?_)
 obtain ⟨s1,bad1,b1,q1,p1,rfl⟩:=hM
 have l1:b1.length≤b.length+1:=q1.len
 refine sA ?_
 refine sp rfl<|sp rfl<|sP (.pointer (some ⟨gx,f,none⟩))<|sS (.int .i64 z) (cellC (R:=R) X0 inCW rfl Tryz.underlying3) ?_
 refine sG<|Sy.block<|Sy.seq<|Sy.block ?_
 by_cases h0:z=0
 ·subst h0
  obtain ⟨A,n,cp,rfl,k2,k3,k4,k5⟩:=h2
  obtain ⟨ok,hok⟩:∃ ok,ok=nulIS ⟨0,am,rg,tk,en,sc⟩:=⟨_,rfl⟩
  refine Sy.seq<|Sy.block<|Sy.block<|Sy.seq<|Sy.block<|Sy.seq<|Sy.seq<|sC ?_
  refine sP (.bool true)<|sp rfl ?_
  refine sG<|sT<|Sy.exit<|Sy.then_exit<|Sy.then_exit<|Sy.in_exit<|sB ?_
  refine sp rfl<|sp rfl<|sp rfl<|sS (.agg (cIS ⟨0,am,rg,tk,en,sc⟩ (.slice A n cp)).toArray) (rowC (R:=R) (cs:=cIS ⟨0,am,rg,tk,en,sc⟩ (.slice A n cp)) (c0.at w0.inn) inCW hlen rfl Tryz.underlying78)<|sS (.bool ok) (qg (λw _=>by rw [hok]; exact noIssue_any w ⟨0,am,rg,tk,en,sc⟩ A n cp k2 d1 h3 h4 h5)) ?_
  refine Sy.callT (λw hw=>must_w w0.inn gc gw bad1 ok s1 R w hw) (λu M hM=>?_)
  subst hM
  refine sG<|Sy.exit ?_
  refine Sy.in_pass (by decide) ?_
  refine Sy.in_pass (by decide) ?_
  refine Sy.then_exit ?_
  refine Sy.in_pass (by decide) ?_
  refine Sy.then_exit<|Sy.in_exit ?_
  have q:=(q1.then_ (Wrote.must ok bad1 b1)).le (k':=wtIS ⟨0,am,rg,tk,en,sc⟩) (by unfold wtIS; dsimp only; omega)
  have e:okIS ⟨0,am,rg,tk,en,sc⟩=(okO 0 && ok):=by rw [hok]; rfl
  exact Sy.retT0 rfl (CWS gc gw (bad1 || !ok) s1 R) (λ_ h=>h) (λ_=>⟨s1,bad1 || !ok,b1,by rw [e]; exact q,p1,rfl⟩)
 by_cases hk:z=1∨z=2
 ·refine Sy.seq ?_
  refine cutC [(0,ptr gc),(1,.pointer (some ⟨gx,f,none⟩))] (CWS gc gw bad1 s1 R) ?_ ?_
  ·clear hl X0 c0 q1 hc hlen h0
   rcases hk with rfl | rfl
   ·refine Sy.block<|Sy.block<|Sy.seq<|Sy.block<|Sy.seq<|Sy.seq<|sC ?_
    refine sP (.bool false)<|sp rfl ?_
    refine sG<|sU<|Sy.skip<|Sy.then_<|Sy.seq<|sC ?_
    refine sP (.bool true)<|sp rfl ?_
    refine sG<|sT<|Sy.exit<|Sy.then_exit<|Sy.then_exit ?_
    refine Sy.in_pass (by decide) ?_
    refine Sy.then_exit<|Sy.in_exit<|Sy.in_ ?_
    exact meet (all_cons kR (all_cons kR all_nil)) (λ_ h=>h)
   ·refine Sy.block<|Sy.block<|Sy.seq<|Sy.block<|Sy.seq<|Sy.seq<|sC ?_
    refine sP (.bool false)<|sp rfl ?_
    refine sG<|sU<|Sy.skip<|Sy.then_<|Sy.seq<|sC ?_
    refine sP (.bool false)<|sp rfl ?_
    refine sG<|sU<|Sy.skip<|Sy.then_<|sC ?_
    refine sP (.bool true)<|sp rfl ?_
    refine sG<|sT<|Sy.exit<|Sy.then_exit ?_
    refine Sy.in_pass (by decide) ?_
    refine Sy.then_exit ?_
    refine Sy.in_pass (by decide) ?_
    refine Sy.in_exit ?_
    exact meet (all_cons kR (all_cons kR all_nil)) (λ_ h=>h)
  refine Sy.then_<|Sy.seq<|sC ?_
  refine sp rfl<|sp rfl<|sp rfl<|sP (.pointer (some ⟨gx,f+1,none⟩)) ?_
  refine Sy.callT (λw hw=>amount_w w0.inn gc gw gx (f+1) bad1 s1 R b1 (cAM am) am ⟨rfl,d1⟩ rfl c1.left p1 (by show _+34≤_; omega) w hw) (λu M hM=>?_)
  obtain ⟨s2,bad2,b2,q2,p2,rfl⟩:=hM
  have l2:b2.length≤b1.length+34:=q2.len
  refine sA ?_
  refine sp rfl<|sp rfl<|sp rfl<|sP (.pointer (some ⟨gx,f+12,none⟩)) ?_
  refine Sy.callT (λw hw=>text_w w0.inn gc gw gx (f+12) bad2 s2 R b2 rg vr 6000 (by decide) h2 (c2.at w0.inn).one p2 (by omega) w hw) (λu M hM=>?_)
  obtain ⟨s3,bad3,b3,q3,p3,rfl⟩:=hM
  have l3:b3.length≤b2.length+(9+rg.length):=q3.len
  refine sA ?_
  refine sp rfl<|sp rfl<|sp rfl<|sP (.pointer (some ⟨gx,f+13,none⟩)) ?_
  refine Sy.callT (λw hw=>long_w w0.inn gc gw gx (f+13) bad3 s3 R b3 tk h3 (c3.at w0.inn).one p3 (by omega) w hw) (λu M hM=>?_)
  obtain ⟨s4,bad4,b4,q4,p4,rfl⟩:=hM
  have l4:b4.length≤b3.length+8:=q4.len
  refine sA ?_
  refine sp rfl<|sp rfl<|sp rfl<|sP (.pointer (some ⟨gx,f+14,none⟩)) ?_
  refine Sy.callT (λw hw=>digest_w w0.inn gc gw gx (f+14) bad4 s4 R b4 en h4 (c4.at w0.inn).left p4 (by omega) w hw) (λu M hM=>?_)
  obtain ⟨s5,bad5,b5,q5,p5,rfl⟩:=hM
  have l5:b5.length≤b4.length+32:=q5.len
  refine Sy.nil<|Sy.then_<|Sy.region ?_
  refine sp rfl<|sp rfl<|sp rfl<|sP (.pointer (some ⟨gx,f+46,none⟩)) ?_
  refine Sy.callT (λw hw=>scalar_w w0.inn gc gw gx (f+46) bad5 s5 R b5 (Cu.fws sc) sc ⟨rfl,h5⟩ rfl (c5.at w0.inn) p5 (by show _+32≤_; omega) w hw) (λu M hM=>?_)
  obtain ⟨s6,bad6,b6,q6,p6,rfl⟩:=hM
  have l6:b6.length≤b5.length+32:=q6.len
  refine Sy.nil<|Sy.then_<|Sy.exit ?_
  refine Sy.in_pass (by decide) ?_
  refine Sy.then_exit<|Sy.in_exit ?_
  have q:=q1.then_ (q2.then_ (q3.then_ (q4.then_ (q5.then_ q6))))
  have e1:okO z=true:=by rcases hk with rfl | rfl <;> rfl
  have e2:okIS ⟨z,am,rg,tk,en,sc⟩=fulIS ⟨z,am,rg,tk,en,sc⟩:=by unfold okIS; rw [if_neg h0,if_pos hk]
  have e3:encIS ⟨z,am,rg,tk,en,sc⟩=[octB z]++bodyIS ⟨z,am,rg,tk,en,sc⟩:=by unfold encIS; rw [if_neg h0]
  rw [e1,Bool.true_and,Bool.true_and,Bool.true_and] at q
  exact Sy.retT0 rfl (CWS gc gw bad6 s6 R) (λ_ h=>h) (λ_=>⟨s6,bad6,b6,by rw [e2,e3]; exact q,p6,rfl⟩)
 refine Sy.seq<|Sy.block<|Sy.block<|Sy.seq<|Sy.block<|Sy.seq<|Sy.seq<|sC ?_
 refine sS (.bool false) (Quiet.pure (exec_int .eql _ _ _ .i64 _ _ _ rfl rfl rfl (int_eql _ _ _ _ _ (decide_eq_false (λe=>h0 e)))))<|sp rfl ?_
 refine sG<|sU<|Sy.skip<|Sy.then_<|Sy.seq<|sC ?_
 refine sS (.bool false) (Quiet.pure (exec_int .eql _ _ _ .i64 _ _ _ rfl rfl rfl (int_eql _ _ _ _ _ (decide_eq_false (λe=>hk (.inl e))))))<|sp rfl ?_
 refine sG<|sU<|Sy.skip<|Sy.then_<|sC ?_
 refine sS (.bool false) (Quiet.pure (exec_int .eql _ _ _ .i64 _ _ _ rfl rfl rfl (int_eql _ _ _ _ _ (decide_eq_false (λe=>hk (.inr e))))))<|sp rfl ?_
 refine sG<|sU<|Sy.skip<|Sy.then_<|Sy.exit ?_
 refine Sy.in_pass (by decide) ?_
 refine Sy.then_exit ?_
 refine Sy.in_pass (by decide) ?_
 refine Sy.in_pass (by decide) ?_
 refine Sy.then_exit<|Sy.in_exit<|sB ?_
 refine sp rfl ?_
 refine Sy.callT (λw hw=>must_w w0.inn gc gw bad1 false s1 R w hw) (λu M hM=>?_)
 subst hM
 refine sG<|Sy.exit<|Sy.in_exit ?_
 have hno:okIS ⟨z,am,rg,tk,en,sc⟩=false:=by unfold okIS; rw [if_neg h0,if_neg hk]
 exact Sy.retT0 rfl (CWS gc gw (bad1 || !false) s1 R) (λ_ h=>h) (λ_=>⟨s1,bad1 || !false,b1,⟨by rw [hno]; cases bad1 <;> cases bad <;> rfl,λh=>(by cases bad1 <;> cases h),by unfold wtIS; dsimp only; omega⟩,p1,rfl⟩)
theorem nul_zIS:nulIS zIS=true:=by decide
theorem zAM_rep:zAM.value<18446744073709551616∧zAM.pt.x<Cu.K4∧zAM.pt.y<Cu.K4:=⟨(show (0:Nat)<18446744073709551616 by decide),(show 0<Cu.K4 by decide),(show 0<Cu.K4 by decide)⟩
theorem issue_r:GetC 115 50 ([Value.int .i64 0]++(([Value.bool false]++([Value.int .u64 0]++lPT ⟨0,0,false⟩))++([Value.slice none 0 0]++([Value.int .u64 0]++(Z32++(Cu.fws 0)))))) repIS rdIS:=λw0 gc gr gx f tx A Z sl s R S hS hA he hl hv w hw=>by
 refine Sy.enterT (args:=[ptr gc,.pointer (some ⟨gx,f,none⟩)]) hw Tryz.func115 rfl kL ?_
 refine sC ?_
 refine sp rfl<|sp rfl<|sp rfl<|sP (.pointer (some ⟨gx,f,none⟩)) ?_
 refine Sy.callT (λw hw=>octet_r w0.inn gc gr gx f tx (A) (([Value.bool false]++([Value.int .u64 0]++lPT ⟨0,0,false⟩))++([Value.slice none 0 0]++([Value.int .u64 0]++(Z32++(Cu.fws 0++Z))))) sl s (R) S hS hA he (hl) hv w (by simpa only [List.append_assoc] using hw)) (λu M hM=>?_)
 obtain ⟨x1,s1,sl1,cs1,N1,a1,n1,o1,rfl,e1,h1,y1,rfl⟩:=hM
 have g1:s1.rest.length≤s.rest.length:=h1
 have A1:(A++[Value.int .i64 x1]).length=f+1:=by rw [List.length_append,hA,n1]
 refine sA ?_
 refine sp rfl<|sp rfl<|sP (.pointer (some ⟨gx,f,none⟩))<|sS (.int .i64 x1) (Quiet.cell 1 gx f tx 3 (A++([Value.int .i64 x1]++(([Value.bool false]++([Value.int .u64 0]++lPT ⟨0,0,false⟩))++([Value.slice none 0 0]++([Value.int .u64 0]++(Z32++(Cu.fws 0++Z))))))).toArray _ _ rfl kR rfl Tryz.underlying3 rfl _ (by rw [List.getElem?_toArray,List.getElem?_append_right (by omega),hA,Nat.sub_self]; rfl)) ?_
 refine sG<|Sy.block<|Sy.seq<|Sy.block ?_
 have hrp1:∀ N,repIS (rdB N) ([Value.int .i64 x1]++(([Value.bool false]++([Value.int .u64 0]++lPT ⟨0,0,false⟩))++([Value.slice none 0 0]++([Value.int .u64 0]++(Z32++(Cu.fws 0)))))) ⟨x1,zAM,[],0,z32,0⟩:=λN=>⟨_,rfl,zAM_rep,BytR.nil _,(show (0:Nat)<18446744073709551616 by decide),rfl,(show 0<Cu.K4 by decide)⟩
 have hcs:A++(([Value.int .i64 x1]++(([Value.bool false]++([Value.int .u64 0]++lPT ⟨0,0,false⟩))++([Value.slice none 0 0]++([Value.int .u64 0]++(Z32++(Cu.fws 0))))))++Z)=(A++([Value.int .i64 x1]++(([Value.bool false]++([Value.int .u64 0]++lPT ⟨0,0,false⟩))++([Value.slice none 0 0]++([Value.int .u64 0]++(Z32++(Cu.fws 0++Z))))))):=by simp only [List.append_assoc]
 have p5:(CRS gc gr gx tx (A++([Value.int .i64 x1]++(([Value.bool false]++([Value.int .u64 0]++lPT ⟨0,0,false⟩))++([Value.slice none 0 0]++([Value.int .u64 0]++(Z32++(Cu.fws 0++Z))))))) sl1 s1.e (R++N1)).Perm (CRN gc gr sl1 s1.e ((gx,tx,(A++([Value.int .i64 x1]++(([Value.bool false]++([Value.int .u64 0]++lPT ⟨0,0,false⟩))++([Value.slice none 0 0]++([Value.int .u64 0]++(Z32++(Cu.fws 0++Z))))))).toArray)::(R++N1))):=swap23
 by_cases h0:x1=0
 ·subst h0
  refine Sy.seq<|Sy.block<|Sy.block<|Sy.seq<|Sy.block<|Sy.seq<|Sy.seq<|sC ?_
  refine sP (.bool true)<|sp rfl ?_
  refine sG<|sT<|Sy.exit<|Sy.then_exit<|Sy.then_exit<|Sy.in_exit<|sB ?_
  refine sp rfl<|sp rfl<|sp rfl<|sS (.agg (([Value.int .i64 0]++(([Value.bool false]++([Value.int .u64 0]++lPT ⟨0,0,false⟩))++([Value.slice none 0 0]++([Value.int .u64 0]++(Z32++(Cu.fws 0))))))).toArray) (Quiet.mid 1 gx f 50 tx 78 (A++([Value.int .i64 0]++(([Value.bool false]++([Value.int .u64 0]++lPT ⟨0,0,false⟩))++([Value.slice none 0 0]++([Value.int .u64 0]++(Z32++(Cu.fws 0++Z))))))) ([Value.int .i64 0]++(([Value.bool false]++([Value.int .u64 0]++lPT ⟨0,0,false⟩))++([Value.slice none 0 0]++([Value.int .u64 0]++(Z32++(Cu.fws 0)))))) _ _ rfl kR rfl Tryz.underlying78 rfl kR (by rw [← hcs]; exact mid_cells hA rfl) (by rw [← hcs,List.length_append,List.length_append,hA]; show f+50≤f+(50+_); omega))<|sS (.bool true) (qg (λw _=>by have q:=noIssue_any w zIS none 0 0 rfl zAM_rep (show (0:Nat)<18446744073709551616 by decide) rfl (show 0<Cu.K4 by decide); rw [nul_zIS] at q; exact q)) ?_
  refine Sy.permS p5 ?_
  refine Sy.callT (λw hw=>must_r w0.inn gc gr sl1 s1.e e1 ((gx,tx,(A++([Value.int .i64 0]++(([Value.bool false]++([Value.int .u64 0]++lPT ⟨0,0,false⟩))++([Value.slice none 0 0]++([Value.int .u64 0]++(Z32++(Cu.fws 0++Z))))))).toArray)::(R++N1)) true w hw) (λu M hM=>?_)
  subst hM
  rw [if_pos rfl]
  refine Sy.permS (M:=CRS gc gr gx tx (A++([Value.int .i64 0]++(([Value.bool false]++([Value.int .u64 0]++lPT ⟨0,0,false⟩))++([Value.slice none 0 0]++([Value.int .u64 0]++(Z32++(Cu.fws 0++Z))))))) sl1 s1.e (R++N1)) swap23 ?_
  refine sG<|Sy.exit ?_
  refine Sy.in_pass (by decide) ?_
  refine Sy.in_pass (by decide) ?_
  refine Sy.then_exit ?_
  refine Sy.in_pass (by decide) ?_
  refine Sy.then_exit<|Sy.in_exit ?_
  have hAf:After rdIS s ⟨0,zAM,[],0,z32,0⟩ s1:=by
   have q:After (bindP octP λk=>if k=0 then retP zIS else bindP (mustP (decide (k=1∨k=2))) λ_=>fulRd k) s zIS s1:=a1.bind (by rw [if_pos rfl]; exact After.ret _ _)
   exact q
  exact Sy.retT0 rfl (CRS gc gr gx tx (A++(([Value.int .i64 0]++(([Value.bool false]++([Value.int .u64 0]++lPT ⟨0,0,false⟩))++([Value.slice none 0 0]++([Value.int .u64 0]++(Z32++(Cu.fws 0))))))++Z)) sl1 s1.e (R++N1)) (λ_ h=>by rw [hcs]; exact h) (λ_=>⟨_,s1,sl1,_,N1,hAf,rfl,oneIS (hrp1 N1),hrp1 N1,e1,h1,y1,rfl⟩)
 by_cases hk:x1=1∨x1=2
 ·refine Sy.seq ?_
  refine cutC [(0,ptr gc),(1,.pointer (some ⟨gx,f,none⟩))] (CRS gc gr gx tx (A++([Value.int .i64 x1]++(([Value.bool false]++([Value.int .u64 0]++lPT ⟨0,0,false⟩))++([Value.slice none 0 0]++([Value.int .u64 0]++(Z32++(Cu.fws 0++Z))))))) sl1 s1.e (R++N1)) ?_ ?_
  ·clear a1 n1 o1 A1 h0 hrp1 hcs p5
   rcases hk with rfl | rfl
   ·refine Sy.block<|Sy.block<|Sy.seq<|Sy.block<|Sy.seq<|Sy.seq<|sC ?_
    refine sP (.bool false)<|sp rfl ?_
    refine sG<|sU<|Sy.skip<|Sy.then_<|Sy.seq<|sC ?_
    refine sP (.bool true)<|sp rfl ?_
    refine sG<|sT<|Sy.exit<|Sy.then_exit<|Sy.then_exit ?_
    refine Sy.in_pass (by decide) ?_
    refine Sy.then_exit<|Sy.in_exit<|Sy.in_ ?_
    exact meet (all_cons kR (all_cons kR all_nil)) (λ_ h=>h)
   ·refine Sy.block<|Sy.block<|Sy.seq<|Sy.block<|Sy.seq<|Sy.seq<|sC ?_
    refine sP (.bool false)<|sp rfl ?_
    refine sG<|sU<|Sy.skip<|Sy.then_<|Sy.seq<|sC ?_
    refine sP (.bool false)<|sp rfl ?_
    refine sG<|sU<|Sy.skip<|Sy.then_<|sC ?_
    refine sP (.bool true)<|sp rfl ?_
    refine sG<|sT<|Sy.exit<|Sy.then_exit ?_
    refine Sy.in_pass (by decide) ?_
    refine Sy.then_exit ?_
    refine Sy.in_pass (by decide) ?_
    refine Sy.in_exit ?_
    exact meet (all_cons kR (all_cons kR all_nil)) (λ_ h=>h)
  refine Sy.then_<|Sy.seq<|sC ?_
  refine sp rfl<|sp rfl<|sp rfl<|sP (.pointer (some ⟨gx,f+1,none⟩)) ?_
  refine Sy.callT (λw hw=>amount_r w0.inn gc gr gx (f+1) tx (A++[Value.int .i64 x1]) ([Value.slice none 0 0]++([Value.int .u64 0]++(Z32++(Cu.fws 0++Z)))) sl1 s1 (R++N1) S (λb h=>List.mem_append_left _ (hS b h)) A1 e1 (Nat.le_trans g1 hl) y1 w (by have e:A++[Value.int .i64 x1]++(([Value.bool false]++([Value.int .u64 0]++lPT ⟨0,0,false⟩))++([Value.slice none 0 0]++([Value.int .u64 0]++(Z32++(Cu.fws 0++Z)))))=A++([Value.int .i64 x1]++(([Value.bool false]++([Value.int .u64 0]++lPT ⟨0,0,false⟩))++([Value.slice none 0 0]++([Value.int .u64 0]++(Z32++(Cu.fws 0++Z)))))):=List.append_assoc ..; rw [e]; exact hw)) (λu M hM=>?_)
  obtain ⟨x2,s2,sl2,cs2,N2,a2,n2,o2,⟨rfl,r2⟩,e2,h2,y2,rfl⟩:=hM
  have g2:s2.rest.length≤s.rest.length:=Nat.le_trans h2 g1
  have A2:(A++[Value.int .i64 x1]++(cAM x2)).length=f+12:=by rw [List.length_append,A1,n2]
  refine sA ?_
  refine sp rfl<|sp rfl<|sp rfl<|sP (.pointer (some ⟨gx,f+12,none⟩)) ?_
  refine Sy.callT (λw hw=>text_r 6000 (by decide) w0.inn gc gr gx (f+12) tx (A++[Value.int .i64 x1]++(cAM x2)) ([Value.int .u64 0]++(Z32++(Cu.fws 0++Z))) sl2 s2 (R++N1++N2) S (λb h=>List.mem_append_left _ (List.mem_append_left _ (hS b h))) A2 e2 (Nat.le_trans g2 hl) y2 w (by have e:A++[Value.int .i64 x1]++(cAM x2)++([Value.slice none 0 0]++([Value.int .u64 0]++(Z32++(Cu.fws 0++Z))))=A++[Value.int .i64 x1]++(cAM x2++([Value.slice none 0 0]++([Value.int .u64 0]++(Z32++(Cu.fws 0++Z))))):=List.append_assoc ..; rw [e]; exact hw)) (λu M hM=>?_)
  obtain ⟨x3,s3,sl3,cs3,N3,a3,n3,o3,⟨v3,rfl,r3⟩,e3,h3,y3,rfl⟩:=hM
  have g3:s3.rest.length≤s.rest.length:=Nat.le_trans h3 g2
  have A3:(A++[Value.int .i64 x1]++(cAM x2)++[v3]).length=f+13:=by rw [List.length_append,A2,n3]
  refine sA ?_
  refine sp rfl<|sp rfl<|sp rfl<|sP (.pointer (some ⟨gx,f+13,none⟩)) ?_
  refine Sy.callT (λw hw=>long_r w0.inn gc gr gx (f+13) tx (A++[Value.int .i64 x1]++(cAM x2)++[v3]) (Z32++(Cu.fws 0++Z)) sl3 s3 (R++N1++N2++N3) S (λb h=>List.mem_append_left _ (List.mem_append_left _ (List.mem_append_left _ (hS b h)))) A3 e3 (Nat.le_trans g3 hl) y3 w (by have e:A++[Value.int .i64 x1]++(cAM x2)++[v3]++([Value.int .u64 0]++(Z32++(Cu.fws 0++Z)))=A++[Value.int .i64 x1]++(cAM x2)++([v3]++([Value.int .u64 0]++(Z32++(Cu.fws 0++Z)))):=List.append_assoc ..; rw [e]; exact hw)) (λu M hM=>?_)
  obtain ⟨x4,s4,sl4,cs4,N4,a4,n4,o4,⟨rfl,r4⟩,e4,h4,y4,rfl⟩:=hM
  have g4:s4.rest.length≤s.rest.length:=Nat.le_trans h4 g3
  have A4:(A++[Value.int .i64 x1]++(cAM x2)++[v3]++[Value.int .u64 (x4:Int)]).length=f+14:=by rw [List.length_append,A3,n4]
  refine sA ?_
  refine sp rfl<|sp rfl<|sp rfl<|sP (.pointer (some ⟨gx,f+14,none⟩)) ?_
  refine Sy.callT (λw hw=>digest_r w0.inn gc gr gx (f+14) tx (A++[Value.int .i64 x1]++(cAM x2)++[v3]++[Value.int .u64 (x4:Int)]) (Cu.fws 0++Z) sl4 s4 (R++N1++N2++N3++N4) S (λb h=>List.mem_append_left _ (List.mem_append_left _ (List.mem_append_left _ (List.mem_append_left _ (hS b h))))) A4 e4 (Nat.le_trans g4 hl) y4 w (by have e:A++[Value.int .i64 x1]++(cAM x2)++[v3]++[Value.int .u64 (x4:Int)]++(Z32++(Cu.fws 0++Z))=A++[Value.int .i64 x1]++(cAM x2)++[v3]++([Value.int .u64 (x4:Int)]++(Z32++(Cu.fws 0++Z))):=List.append_assoc ..; rw [e]; exact hw)) (λu M hM=>?_)
  obtain ⟨x5,s5,sl5,cs5,N5,a5,n5,o5,⟨rfl,r5⟩,e5,h5,y5,rfl⟩:=hM
  have g5:s5.rest.length≤s.rest.length:=Nat.le_trans h5 g4
  have A5:(A++[Value.int .i64 x1]++(cAM x2)++[v3]++[Value.int .u64 (x4:Int)]++(x5.map bv)).length=f+46:=by rw [List.length_append,A4,n5]
  refine Sy.nil<|Sy.then_<|Sy.region ?_
  refine sp rfl<|sp rfl<|sp rfl<|sP (.pointer (some ⟨gx,f+46,none⟩)) ?_
  refine Sy.callT (λw hw=>scalar_r w0.inn gc gr gx (f+46) tx (A++[Value.int .i64 x1]++(cAM x2)++[v3]++[Value.int .u64 (x4:Int)]++(x5.map bv)) (Z) sl5 s5 (R++N1++N2++N3++N4++N5) S (λb h=>List.mem_append_left _ (List.mem_append_left _ (List.mem_append_left _ (List.mem_append_left _ (List.mem_append_left _ (hS b h)))))) A5 e5 (Nat.le_trans g5 hl) y5 w (by have e:A++[Value.int .i64 x1]++(cAM x2)++[v3]++[Value.int .u64 (x4:Int)]++(x5.map bv)++(Cu.fws 0++(Z))=A++[Value.int .i64 x1]++(cAM x2)++[v3]++[Value.int .u64 (x4:Int)]++(x5.map bv++(Cu.fws 0++(Z))):=List.append_assoc ..; rw [e]; exact hw)) (λu M hM=>?_)
  obtain ⟨x6,s6,sl6,cs6,N6,a6,n6,o6,⟨rfl,r6⟩,e6,h6,y6,rfl⟩:=hM
  have g6:s6.rest.length≤s.rest.length:=Nat.le_trans h6 g5
  have A6:(A++[Value.int .i64 x1]++(cAM x2)++[v3]++[Value.int .u64 (x4:Int)]++(x5.map bv)++(Cu.fws x6)).length=f+50:=by rw [List.length_append,A5,n6]
  refine Sy.nil<|Sy.then_<|Sy.exit ?_
  refine Sy.in_pass (by decide) ?_
  refine Sy.then_exit<|Sy.in_exit ?_
  have hAf:After rdIS s ⟨x1,x2,x3,x4,x5,x6⟩ s6:=a1.bind (by
   rw [if_neg h0]
   exact After.mustY (decide_eq_true hk) (a2.bind (a3.bind (a4.bind (a5.bind (a6.bind (After.ret _ _)))))))
  have hRp:repIS (rdB (N1++(N2++(N3++(N4++(N5++N6)))))) ([Value.int .i64 x1]++(cAM x2++([v3]++([Value.int .u64 (x4:Int)]++(x5.map bv++(Cu.fws x6)))))) ⟨x1,x2,x3,x4,x5,x6⟩:=⟨v3,rfl,r2,r3.le (rdB_le λb h=>by simp [h]),r4,r5,r6⟩
  exact Sy.retT0 rfl (CRS gc gr gx tx (A++(([Value.int .i64 x1]++(cAM x2++([v3]++([Value.int .u64 (x4:Int)]++(x5.map bv++(Cu.fws x6))))))++Z)) sl6 s6.e (R++(N1++(N2++(N3++(N4++(N5++N6))))))) (λ_ h=>by simpa only [List.append_assoc,List.cons_append,List.nil_append] using h) (λ_=>⟨_,s6,sl6,_,_,hAf,lenIS hRp,oneIS hRp,hRp,e6,g6,y6,rfl⟩)
 refine Sy.seq<|Sy.block<|Sy.block<|Sy.seq<|Sy.block<|Sy.seq<|Sy.seq<|sC ?_
 refine sS (.bool false) (Quiet.pure (exec_int .eql _ _ _ .i64 _ _ _ rfl rfl rfl (int_eql _ _ _ _ _ (decide_eq_false (λe=>h0 e)))))<|sp rfl ?_
 refine sG<|sU<|Sy.skip<|Sy.then_<|Sy.seq<|sC ?_
 refine sS (.bool false) (Quiet.pure (exec_int .eql _ _ _ .i64 _ _ _ rfl rfl rfl (int_eql _ _ _ _ _ (decide_eq_false (λe=>hk (.inl e))))))<|sp rfl ?_
 refine sG<|sU<|Sy.skip<|Sy.then_<|sC ?_
 refine sS (.bool false) (Quiet.pure (exec_int .eql _ _ _ .i64 _ _ _ rfl rfl rfl (int_eql _ _ _ _ _ (decide_eq_false (λe=>hk (.inr e))))))<|sp rfl ?_
 refine sG<|sU<|Sy.skip<|Sy.then_<|Sy.exit ?_
 refine Sy.in_pass (by decide) ?_
 refine Sy.then_exit ?_
 refine Sy.in_pass (by decide) ?_
 refine Sy.in_pass (by decide) ?_
 refine Sy.then_exit<|Sy.in_exit<|sB ?_
 refine sp rfl ?_
 refine Sy.permS p5 ?_
 refine Sy.callT (λw hw=>must_r w0.inn gc gr sl1 s1.e e1 ((gx,tx,(A++([Value.int .i64 x1]++(([Value.bool false]++([Value.int .u64 0]++lPT ⟨0,0,false⟩))++([Value.slice none 0 0]++([Value.int .u64 0]++(Z32++(Cu.fws 0++Z))))))).toArray)::(R++N1)) false w hw) (λu M hM=>?_)
 subst hM
 obtain ⟨e2,he2⟩:∃ e2,e2=if false=true then s1.e else if s1.e=0 then 120 else s1.e:=⟨_,rfl⟩
 rw [← he2]
 rw [if_neg (by decide)] at he2
 have he3:e2≠0:=by rw [he2]; split <;> omega
 have he4:e2≤200:=by rw [he2]; split <;> omega
 refine sG<|Sy.exit<|Sy.in_exit ?_
 have p6:(CRN gc gr sl1 e2 ((gx,tx,(A++([Value.int .i64 x1]++(([Value.bool false]++([Value.int .u64 0]++lPT ⟨0,0,false⟩))++([Value.slice none 0 0]++([Value.int .u64 0]++(Z32++(Cu.fws 0++Z))))))).toArray)::(R++N1))).Perm (CRS gc gr gx tx (A++([Value.int .i64 x1]++(([Value.bool false]++([Value.int .u64 0]++lPT ⟨0,0,false⟩))++([Value.slice none 0 0]++([Value.int .u64 0]++(Z32++(Cu.fws 0++Z))))))) sl1 e2 (R++N1)):=swap23
 have hAf:After rdIS s ⟨x1,zAM,[],0,z32,0⟩ ⟨s1.rest,e2⟩:=a1.bind (by rw [if_neg h0,decide_eq_false hk]; exact After.mustX _ _ he3)
 exact Sy.retT0 rfl (CRS gc gr gx tx (A++(([Value.int .i64 x1]++(([Value.bool false]++([Value.int .u64 0]++lPT ⟨0,0,false⟩))++([Value.slice none 0 0]++([Value.int .u64 0]++(Z32++(Cu.fws 0))))))++Z)) sl1 e2 (R++N1)) (λ_ h=>by rw [hcs]; exact h.perm p6) (λ_=>⟨_,⟨s1.rest,e2⟩,sl1,_,N1,hAf,rfl,oneIS (hrp1 N1),hrp1 N1,he4,h1,y1,rfl⟩)
end Wr
end
section
namespace Wr
open Go.RowKit Sy
set_option maxRecDepth 100000
set_option maxHeartbeats 4000000
theorem okO_of2 {z:Int} (h:okK2 z=true):okO z=true:=by
 unfold okK2 at h; unfold okO
 rw [Bool.and_eq_true,decide_eq_true_eq,decide_eq_true_eq] at h ⊢
 omega
theorem in_w:PutO 63 122 repIN okIN encIN wtIN:=λw0 gc gw gx f bad s R b cs x hx _ hc hb hl w hw=>by
 obtain ⟨z,pt,ix,iss,pg,wi⟩:=x
 obtain ⟨ci,cg,vw,rfl,h1,h2,h3,h4,h5⟩:=hx
 dsimp only at h1 h2 h3 h4 h5
 unfold wtIN at hl
 dsimp only at hl
 have m1:(pt.map bv++[Value.int .u32 (ix:Int)]).length=33:=by rw [List.length_append,List.length_map,h1]; rfl
 have m3:=lenIS h3
 have m4:=lenPG h4
 have c0:OwnAt R gx f ([.int .i64 z]++((pt.map bv++[.int .u32 (ix:Int)])++(ci++(cg++[vw])))):=hc
 have c1:OwnAt R gx (f+1) ((pt.map bv++[.int .u32 (ix:Int)])++(ci++(cg++[vw]))):=c0.right (n:=1) rfl
 have c2:OwnAt R gx (f+34) (ci++(cg++[vw])):=by have q:=c1.right m1; rwa [Nat.add_assoc] at q
 have c4:OwnAt R gx (f+84) (cg++[vw]):=by have q:=c2.right m3; rwa [Nat.add_assoc] at q
 have c5:OwnAt R gx (f+121) [vw]:=by have q:=c4.right m4; rwa [Nat.add_assoc] at q
 have X0:rdC w0.inn R gx f (.int .i64 z):=(c0.at w0.inn).one
 refine Sy.enterT (args:=[ptr gc,.pointer (some ⟨gx,f,none⟩)]) hw Tryz.func63 rfl kL ?_
 refine sC ?_
 refine sp rfl<|sp rfl<|sp rfl<|sP (.pointer (some ⟨gx,f,none⟩)) ?_
 refine Sy.callT (λw hw=>octet_w w0.inn gc gw gx f bad s R b z X0 hb (by omega) w hw) (λu M hM=>?_)
 obtain ⟨s1,bad1,b1,q1,p1,rfl⟩:=hM
 have l1:b1.length≤b.length+1:=q1.len
 refine sA ?_
 refine sp rfl<|sp rfl<|sp rfl<|sP (.pointer (some ⟨gx,f+1,none⟩)) ?_
 refine Sy.callT (λw hw=>outpoint_w w0.inn gc gw gx (f+1) bad1 s1 R b1 _ (pt,ix) ⟨rfl,h1,h2⟩ m1 (c1.left.at w0.inn) p1 (by show _+36≤_; omega) w hw) (λu M hM=>?_)
 obtain ⟨s2,bad2,b2,q2,p2,rfl⟩:=hM
 have l2:b2.length≤b1.length+36:=q2.len
 refine sA ?_
 refine sp rfl<|sp rfl<|sp rfl<|sP (.pointer (some ⟨gx,f+34,none⟩)) ?_
 refine Sy.callT (λw hw=>issue_w w0.inn gc gw gx (f+34) bad2 s2 R b2 ci iss h3 m3 c2.left p2 (by omega) w hw) (λu M hM=>?_)
 obtain ⟨s3,bad3,b3,q3,p3,rfl⟩:=hM
 have l3:b3.length≤b2.length+wtIS iss:=q3.len
 refine sG<|Sy.seq<|sC ?_
 refine sp rfl<|sp rfl<|sP (.pointer (some ⟨gx,f,none⟩))<|sS (.int .i64 z) (cellC (R:=R) X0 inCW rfl Tryz.underlying3) ?_
 refine sG<|Sy.block<|sC ?_
 have fine:∀ (okP:Bool) (eP:Byt) (bad4 bad5:Bool) (b4 b5:Byt),okK2 z=true→okIN ⟨z,pt,ix,iss,pg,wi⟩=(okIS iss && (okP && okW wi))→encIN ⟨z,pt,ix,iss,pg,wi⟩=[octB z]++(pt++(nb 4 ix++(encIS iss++(eP++encL encT wi))))→Wrote okP eP (wtPG pg) bad3 b3 bad4 b4→Wrote (okW wi) (encL encT wi) (9+(wi.map wtT).sum) bad4 b4 bad5 b5→Wrote (okIN ⟨z,pt,ix,iss,pg,wi⟩) (encIN ⟨z,pt,ix,iss,pg,wi⟩) (wtIN ⟨z,pt,ix,iss,pg,wi⟩) bad b bad5 b5:=λokP eP bad4 bad5 b4 b5 hk e1 e2 g4 g5=>by
  have q:=q1.then_ (q2.then_ (q3.then_ (g4.then_ g5)))
  rw [okO_of2 hk,Bool.true_and,Bool.true_and] at q
  rw [e1,e2]
  unfold encOP at q
  simp only [List.append_assoc] at q ⊢
  exact q
 by_cases hk1:z=1
 ·subst hk1
  obtain ⟨vt,vp,vs,rfl,d1,⟨A1,n1,k1,rfl,e1,_⟩,d3,d4,⟨A2,n2,k2,rfl,e2,_⟩,⟨A3,n3,k3,rfl,e3,_⟩⟩:=h4
  obtain ⟨ok,hok⟩:∃ ok,ok=nulPG pg:=⟨_,rfl⟩
  refine sP (.bool true)<|sp rfl ?_
  refine sG<|sT<|Sy.region ?_
  refine sp rfl<|sp rfl<|sp rfl<|sP (.pointer (some ⟨gx,f+84,none⟩))<|sS (.agg (cPG pg (.slice A1 n1 k1) (.slice A2 n2 k2) (.slice A3 n3 k3)).toArray) (rowC (R:=R) (cs:=cPG pg (.slice A1 n1 k1) (.slice A2 n2 k2) (.slice A3 n3 k3)) (c4.left.at w0.inn) inCW m4 rfl Tryz.underlying81)<|sS (.bool ok) (qg (λw _=>by rw [hok]; exact noPeg_any w pg A1 A2 A3 n1 k1 n2 k2 n3 k3 e1 e2 e3 d1)) ?_
  refine Sy.callT (λw hw=>must_w w0.inn gc gw bad3 ok s3 R w hw) (λu M hM=>?_)
  subst hM
  refine Sy.nil<|Sy.in_<|Sy.then_<|Sy.region ?_
  refine sp rfl<|sp rfl<|sp rfl<|sP (.pointer (some ⟨gx,f+121,none⟩)) ?_
  refine Sy.callT (λw hw=>list_w_wit (rep:=repY) one_y monoTT witness_w w0.inn gc gw gx (f+121) 16 (by decide) (bad3 || !ok) s3 R b3 vw wi h5 (c5.at w0.inn).one p3 (by omega) w hw) (λu M hM=>?_)
  obtain ⟨s5,bad5,b5,q5,p5,rfl⟩:=hM
  refine Sy.nil ?_
  exact Sy.retT0 rfl (CWS gc gw bad5 s5 R) (λ_ h=>h) (λ_=>⟨s5,bad5,b5,fine ok [] (bad3 || !ok) bad5 b3 b5 rfl (by rw [hok]; rfl) (by unfold encIN; rfl) ((Wrote.must ok bad3 b3).le (Nat.zero_le _)) q5,p5,rfl⟩)
 refine sS (.bool false) (Quiet.pure (exec_int .eql _ _ _ .i64 _ _ _ rfl rfl rfl (int_eql _ _ _ _ _ (decide_eq_false hk1))))<|sp rfl ?_
 refine sG<|sU<|sC ?_
 by_cases hk2:z=2
 ·subst hk2
  refine sP (.bool true)<|sp rfl ?_
  refine sG<|sT<|Sy.region ?_
  refine sp rfl<|sp rfl<|sp rfl<|sP (.pointer (some ⟨gx,f+84,none⟩)) ?_
  refine Sy.callT (λw hw=>peg_w w0.inn gc gw gx (f+84) bad3 s3 R b3 cg pg h4 m4 (c4.left.at w0.inn) p3 (by omega) w hw) (λu M hM=>?_)
  obtain ⟨s4,bad4,b4,q4,p4,rfl⟩:=hM
  have l4:b4.length≤b3.length+wtPG pg:=q4.len
  refine Sy.nil<|Sy.in_<|Sy.then_<|Sy.region ?_
  refine sp rfl<|sp rfl<|sp rfl<|sP (.pointer (some ⟨gx,f+121,none⟩)) ?_
  refine Sy.callT (λw hw=>list_w_wit (rep:=repY) one_y monoTT witness_w w0.inn gc gw gx (f+121) 16 (by decide) bad4 s4 R b4 vw wi h5 (c5.at w0.inn).one p4 (by omega) w hw) (λu M hM=>?_)
  obtain ⟨s5,bad5,b5,q5,p5,rfl⟩:=hM
  refine Sy.nil ?_
  exact Sy.retT0 rfl (CWS gc gw bad5 s5 R) (λ_ h=>h) (λ_=>⟨s5,bad5,b5,fine (okPG pg) (encPG pg) bad4 bad5 b4 b5 rfl rfl (by unfold encIN; rfl) q4 q5,p5,rfl⟩)
 have hno:okIN ⟨z,pt,ix,iss,pg,wi⟩=false:=by
  unfold okIN
  dsimp only
  rw [okK2_of (λh=>h.elim hk1 hk2)]; rfl
 refine sS (.bool false) (Quiet.pure (exec_int .eql _ _ _ .i64 _ _ _ rfl rfl rfl (int_eql _ _ _ _ _ (decide_eq_false hk2))))<|sp rfl ?_
 refine sG<|sU<|Sy.region ?_
 refine sp rfl ?_
 refine Sy.callT (λw hw=>must_w w0.inn gc gw bad3 false s3 R w hw) (λu M hM=>?_)
 subst hM
 refine Sy.nil<|Sy.in_<|Sy.then_<|Sy.region ?_
 refine sp rfl<|sp rfl<|sp rfl<|sP (.pointer (some ⟨gx,f+121,none⟩)) ?_
 refine Sy.callT (λw hw=>list_w_wit (rep:=repY) one_y monoTT witness_w w0.inn gc gw gx (f+121) 16 (by decide) (bad3 || !false) s3 R b3 vw wi h5 (c5.at w0.inn).one p3 (by omega) w hw) (λu M hM=>?_)
 obtain ⟨s5,bad5,b5,q5,p5,rfl⟩:=hM
 refine Sy.nil ?_
 have qb:=q5.bad
 have ql:=q5.len
 have hbt:bad5=true:=by rw [qb]; cases bad3 <;> rfl
 exact Sy.retT0 rfl (CWS gc gw bad5 s5 R) (λ_ h=>h) (λ_=>⟨s5,bad5,b5,⟨by rw [hno,hbt]; cases bad <;> rfl,λh=>(by rw [hbt] at h; cases h),by unfold wtIN; dsimp only; omega⟩,p5,rfl⟩)
theorem mid_size {A v Z:List Value} {f k:Nat} (hA:A.length=f) (hv:v.length=k):f+k≤(A++(v++Z)).length:=by rw [List.length_append,List.length_append,hA,hv]; omega
theorem nul_zPG:nulPG zPG=true:=by decide
theorem zPG_rep (C:Rdr):repPG C (Z32++([Value.slice none 0 0]++([Value.int .u32 0]++([Value.int .u32 0]++([Value.slice none 0 0]++([Value.slice none 0 0])))))) zPG:=⟨_,_,_,rfl,rfl,BytR.nil _,(show (0:Nat)<4294967296 by decide),(show (0:Nat)<4294967296 by decide),⟨none,0,0,rfl,rfl,Nat.le_refl _,Nat.zero_le _,λh=>(h rfl).elim⟩,BytR.nil _⟩
theorem in_r:GetC 63 122 ([Value.int .i64 0]++((Z32++([Value.int .u32 0]))++(([Value.int .i64 0]++(([Value.bool false]++([Value.int .u64 0]++lPT ⟨0,0,false⟩))++([Value.slice none 0 0]++([Value.int .u64 0]++(Z32++(Cu.fws 0))))))++((Z32++([Value.slice none 0 0]++([Value.int .u32 0]++([Value.int .u32 0]++([Value.slice none 0 0]++([Value.slice none 0 0]))))))++([Value.slice none 0 0]))))) repIN rdIN:=λw0 gc gr gx f tx A Z sl s R S hS hA he hl hv w hw=>by
 refine Sy.enterT (args:=[ptr gc,.pointer (some ⟨gx,f,none⟩)]) hw Tryz.func63 rfl kL ?_
 refine sC ?_
 refine sp rfl<|sp rfl<|sp rfl<|sP (.pointer (some ⟨gx,f,none⟩)) ?_
 refine Sy.callT (λw hw=>octet_r w0.inn gc gr gx f tx (A) ((Z32++([Value.int .u32 0]))++(([Value.int .i64 0]++(([Value.bool false]++([Value.int .u64 0]++lPT ⟨0,0,false⟩))++([Value.slice none 0 0]++([Value.int .u64 0]++(Z32++(Cu.fws 0))))))++((Z32++([Value.slice none 0 0]++([Value.int .u32 0]++([Value.int .u32 0]++([Value.slice none 0 0]++([Value.slice none 0 0]))))))++([Value.slice none 0 0]++Z)))) sl s (R) S hS hA he (hl) hv w (by simpa only [List.append_assoc] using hw)) (λu M hM=>?_)
 obtain ⟨x1,s1,sl1,cs1,N1,a1,n1,o1,rfl,e1,h1,y1,rfl⟩:=hM
 have g1:s1.rest.length≤s.rest.length:=h1
 have A1:(A++[Value.int .i64 x1]).length=f+1:=by rw [List.length_append,hA,n1]
 refine sA ?_
 refine sp rfl<|sp rfl<|sp rfl<|sP (.pointer (some ⟨gx,f+1,none⟩)) ?_
 refine Sy.callT (λw hw=>outpoint_r w0.inn gc gr gx (f+1) tx (A++[Value.int .i64 x1]) (([Value.int .i64 0]++(([Value.bool false]++([Value.int .u64 0]++lPT ⟨0,0,false⟩))++([Value.slice none 0 0]++([Value.int .u64 0]++(Z32++(Cu.fws 0))))))++((Z32++([Value.slice none 0 0]++([Value.int .u32 0]++([Value.int .u32 0]++([Value.slice none 0 0]++([Value.slice none 0 0]))))))++([Value.slice none 0 0]++Z))) sl1 s1 (R++N1) S (λb h=>List.mem_append_left _ (hS b h)) A1 e1 (Nat.le_trans g1 hl) y1 w (by have e:A++[Value.int .i64 x1]++((Z32++([Value.int .u32 0]))++(([Value.int .i64 0]++(([Value.bool false]++([Value.int .u64 0]++lPT ⟨0,0,false⟩))++([Value.slice none 0 0]++([Value.int .u64 0]++(Z32++(Cu.fws 0))))))++((Z32++([Value.slice none 0 0]++([Value.int .u32 0]++([Value.int .u32 0]++([Value.slice none 0 0]++([Value.slice none 0 0]))))))++([Value.slice none 0 0]++Z))))=A++([Value.int .i64 x1]++((Z32++([Value.int .u32 0]))++(([Value.int .i64 0]++(([Value.bool false]++([Value.int .u64 0]++lPT ⟨0,0,false⟩))++([Value.slice none 0 0]++([Value.int .u64 0]++(Z32++(Cu.fws 0))))))++((Z32++([Value.slice none 0 0]++([Value.int .u32 0]++([Value.int .u32 0]++([Value.slice none 0 0]++([Value.slice none 0 0]))))))++([Value.slice none 0 0]++Z))))):=List.append_assoc ..; rw [e]; exact hw)) (λu M hM=>?_)
 obtain ⟨x2,s2,sl2,cs2,N2,a2,n2,o2,⟨rfl,r2a,r2b⟩,e2,h2,y2,rfl⟩:=hM
 have g2:s2.rest.length≤s.rest.length:=Nat.le_trans h2 g1
 have A2:(A++[Value.int .i64 x1]++(x2.1.map bv++[Value.int .u32 (x2.2:Int)])).length=f+34:=by rw [List.length_append,A1,n2]
 refine sA ?_
 refine sp rfl<|sp rfl<|sp rfl<|sP (.pointer (some ⟨gx,f+34,none⟩)) ?_
 refine Sy.callT (λw hw=>issue_r w0.inn gc gr gx (f+34) tx (A++[Value.int .i64 x1]++(x2.1.map bv++[Value.int .u32 (x2.2:Int)])) ((Z32++([Value.slice none 0 0]++([Value.int .u32 0]++([Value.int .u32 0]++([Value.slice none 0 0]++([Value.slice none 0 0]))))))++([Value.slice none 0 0]++Z)) sl2 s2 (R++N1++N2) S (λb h=>List.mem_append_left _ (List.mem_append_left _ (hS b h))) A2 e2 (Nat.le_trans g2 hl) y2 w (by have e:A++[Value.int .i64 x1]++(x2.1.map bv++[Value.int .u32 (x2.2:Int)])++(([Value.int .i64 0]++(([Value.bool false]++([Value.int .u64 0]++lPT ⟨0,0,false⟩))++([Value.slice none 0 0]++([Value.int .u64 0]++(Z32++(Cu.fws 0))))))++((Z32++([Value.slice none 0 0]++([Value.int .u32 0]++([Value.int .u32 0]++([Value.slice none 0 0]++([Value.slice none 0 0]))))))++([Value.slice none 0 0]++Z)))=A++[Value.int .i64 x1]++(x2.1.map bv++[Value.int .u32 (x2.2:Int)]++(([Value.int .i64 0]++(([Value.bool false]++([Value.int .u64 0]++lPT ⟨0,0,false⟩))++([Value.slice none 0 0]++([Value.int .u64 0]++(Z32++(Cu.fws 0))))))++((Z32++([Value.slice none 0 0]++([Value.int .u32 0]++([Value.int .u32 0]++([Value.slice none 0 0]++([Value.slice none 0 0]))))))++([Value.slice none 0 0]++Z)))):=List.append_assoc ..; rw [e]; exact hw)) (λu M hM=>?_)
 obtain ⟨x3,s3,sl3,cs3,N3,a3,n3,o3,r3,e3,h3,y3,rfl⟩:=hM
 have g3:s3.rest.length≤s.rest.length:=Nat.le_trans h3 g2
 have A3:(A++[Value.int .i64 x1]++(x2.1.map bv++[Value.int .u32 (x2.2:Int)])++(cs3)).length=f+84:=by rw [List.length_append,A2,n3]
 refine Sy.permS (M:=CRS gc gr gx tx (A++[Value.int .i64 x1]++(x2.1.map bv++[Value.int .u32 (x2.2:Int)])++(cs3)++((Z32++([Value.slice none 0 0]++([Value.int .u32 0]++([Value.int .u32 0]++([Value.slice none 0 0]++([Value.slice none 0 0]))))))++([Value.slice none 0 0]++Z))) sl3 s3.e (R++N1++N2++N3)) (List.Perm.of_eq (congrArg (λz=>CRS gc gr gx tx z sl3 s3.e (R++N1++N2++N3)) (show (A++[Value.int .i64 x1]++(x2.1.map bv++[Value.int .u32 (x2.2:Int)])++(cs3++((Z32++([Value.slice none 0 0]++([Value.int .u32 0]++([Value.int .u32 0]++([Value.slice none 0 0]++([Value.slice none 0 0]))))))++([Value.slice none 0 0]++Z))))=(A++[Value.int .i64 x1]++(x2.1.map bv++[Value.int .u32 (x2.2:Int)])++(cs3)++((Z32++([Value.slice none 0 0]++([Value.int .u32 0]++([Value.int .u32 0]++([Value.slice none 0 0]++([Value.slice none 0 0]))))))++([Value.slice none 0 0]++Z))) from (List.append_assoc ..).symm))) ?_
 refine sG<|Sy.seq<|sC ?_
 refine sp rfl<|sp rfl<|sP (.pointer (some ⟨gx,f,none⟩))<|sS (.int .i64 x1) (Quiet.cell 1 gx f tx 3 (A++[Value.int .i64 x1]++(x2.1.map bv++[Value.int .u32 (x2.2:Int)])++(cs3)++((Z32++([Value.slice none 0 0]++([Value.int .u32 0]++([Value.int .u32 0]++([Value.slice none 0 0]++([Value.slice none 0 0]))))))++([Value.slice none 0 0]++Z))).toArray _ _ rfl kR rfl Tryz.underlying3 rfl _ (by rw [show (A++[Value.int .i64 x1]++(x2.1.map bv++[Value.int .u32 (x2.2:Int)])++(cs3)++((Z32++([Value.slice none 0 0]++([Value.int .u32 0]++([Value.int .u32 0]++([Value.slice none 0 0]++([Value.slice none 0 0]))))))++([Value.slice none 0 0]++Z)))=A++([Value.int .i64 x1]++(x2.1.map bv++[Value.int .u32 (x2.2:Int)]++(cs3++((Z32++([Value.slice none 0 0]++([Value.int .u32 0]++([Value.int .u32 0]++([Value.slice none 0 0]++([Value.slice none 0 0]))))))++([Value.slice none 0 0]++Z))))) by simp only [List.append_assoc],List.getElem?_toArray,List.getElem?_append_right (by omega),hA,Nat.sub_self]; rfl)) ?_
 refine sG<|Sy.block<|sC ?_
 have p5:(CRS gc gr gx tx (A++[Value.int .i64 x1]++(x2.1.map bv++[Value.int .u32 (x2.2:Int)])++(cs3)++((Z32++([Value.slice none 0 0]++([Value.int .u32 0]++([Value.int .u32 0]++([Value.slice none 0 0]++([Value.slice none 0 0]))))))++([Value.slice none 0 0]++Z))) sl3 s3.e (R++N1++N2++N3)).Perm (CRN gc gr sl3 s3.e ((gx,tx,(A++[Value.int .i64 x1]++(x2.1.map bv++[Value.int .u32 (x2.2:Int)])++(cs3)++((Z32++([Value.slice none 0 0]++([Value.int .u32 0]++([Value.int .u32 0]++([Value.slice none 0 0]++([Value.slice none 0 0]))))))++([Value.slice none 0 0]++Z))).toArray)::(R++N1++N2++N3))):=swap23
 have head:∀ {p:Ps MIn} {y:MIn} {s':RS},After (bindP (mustP (okK2 x1)) λ_=>bindP (takeP 32) λp=>bindP (numP 4) λx=>bindP rdIS λi=>bindP (if x1=2 then rdPG else retP zPG) λg=>bindP (listP 16 (textP 256)) λw=>retP ⟨x1,p,x,i,g,w⟩) s1 y s'→After rdIN s y s':=λh=>a1.bind h
 have a2':∀ {α:Type} {q:Byt→Nat→Ps α} {y:α} {s':RS},After (q x2.1 x2.2) s2 y s'→After (bindP (takeP 32) λp=>bindP (numP 4) λx=>q p x) s1 y s':=λ{α} {q} {y} {s'} h=>by
  have e:(bindP (takeP 32) λp=>bindP (numP 4) λx=>q p x)=bindP rdOP λz=>q z.1 z.2:=by
   funext l
   unfold rdOP
   cases ht:takeP 32 l with
   | none=>rw [bind_none ht,bind_none]; exact bind_none ht
   | some u =>
    obtain ⟨p,r⟩:=u
    rw [bind_some ht]
    cases hn:numP 4 r with
    | none=>rw [bind_none hn,bind_none]; rw [bind_some ht,bind_none hn]
    | some v =>
     obtain ⟨x,r2⟩:=v
     rw [bind_some hn,bind_some (show bindP (takeP 32) (λp=>bindP (numP 4) λn=>retP (p,n)) l=some ((p,x),r2) by rw [bind_some ht,bind_some hn]; rfl)]
  rw [e]
  exact a2.bind h
 by_cases hk1:x1=1
 ·subst hk1
  refine sP (.bool true)<|sp rfl ?_
  refine sG<|sT<|Sy.region ?_
  refine sp rfl<|sp rfl<|sp rfl<|sP (.pointer (some ⟨gx,f+84,none⟩))<|sS (.agg (Z32++([Value.slice none 0 0]++([Value.int .u32 0]++([Value.int .u32 0]++([Value.slice none 0 0]++([Value.slice none 0 0])))))).toArray) (Quiet.mid 1 gx (f+84) 37 tx 81 (A++[Value.int .i64 1]++(x2.1.map bv++[Value.int .u32 (x2.2:Int)])++(cs3)++((Z32++([Value.slice none 0 0]++([Value.int .u32 0]++([Value.int .u32 0]++([Value.slice none 0 0]++([Value.slice none 0 0]))))))++([Value.slice none 0 0]++Z))) (Z32++([Value.slice none 0 0]++([Value.int .u32 0]++([Value.int .u32 0]++([Value.slice none 0 0]++([Value.slice none 0 0])))))) _ _ rfl kR rfl Tryz.underlying81 rfl kR (mid_cells A3 rfl) (mid_size A3 rfl))<|sS (.bool true) (qg (λw _=>by have q:=noPeg_any w zPG none none none 0 0 0 0 0 0 rfl rfl rfl rfl; rw [nul_zPG] at q; exact q)) ?_
  refine Sy.permS (M:=CRN gc gr sl3 s3.e ((gx,tx,(A++[Value.int .i64 1]++(x2.1.map bv++[Value.int .u32 (x2.2:Int)])++(cs3)++((Z32++([Value.slice none 0 0]++([Value.int .u32 0]++([Value.int .u32 0]++([Value.slice none 0 0]++([Value.slice none 0 0]))))))++([Value.slice none 0 0]++Z))).toArray)::(R++N1++N2++N3))) swap23 ?_
  refine Sy.callT (λw hw=>must_r w0.inn gc gr sl3 s3.e e3 ((gx,tx,(A++[Value.int .i64 1]++(x2.1.map bv++[Value.int .u32 (x2.2:Int)])++(cs3)++((Z32++([Value.slice none 0 0]++([Value.int .u32 0]++([Value.int .u32 0]++([Value.slice none 0 0]++([Value.slice none 0 0]))))))++([Value.slice none 0 0]++Z))).toArray)::(R++N1++N2++N3)) true w hw) (λu M hM=>?_)
  subst hM
  rw [if_pos rfl]
  refine Sy.permS (M:=CRS gc gr gx tx (A++[Value.int .i64 1]++(x2.1.map bv++[Value.int .u32 (x2.2:Int)])++(cs3)++((Z32++([Value.slice none 0 0]++([Value.int .u32 0]++([Value.int .u32 0]++([Value.slice none 0 0]++([Value.slice none 0 0]))))))++([Value.slice none 0 0]++Z))) sl3 s3.e (R++N1++N2++N3)) swap23 ?_
  refine Sy.nil<|Sy.in_<|Sy.then_<|Sy.region ?_
  have A4:(A++[Value.int .i64 1]++(x2.1.map bv++[Value.int .u32 (x2.2:Int)])++(cs3)++((Z32++([Value.slice none 0 0]++([Value.int .u32 0]++([Value.int .u32 0]++([Value.slice none 0 0]++([Value.slice none 0 0])))))))).length=f+121:=by rw [List.length_append,A3]; rfl
  refine sp rfl<|sp rfl<|sp rfl<|sP (.pointer (some ⟨gx,f+121,none⟩)) ?_
  refine Sy.callT (λw hw=>list_r_wit (rep:=repY) (p:=textP 256) one_y monoTT witness_r w0.inn gc gr gx (f+121) 16 (by decide) tx (A++[Value.int .i64 1]++(x2.1.map bv++[Value.int .u32 (x2.2:Int)])++(cs3)++((Z32++([Value.slice none 0 0]++([Value.int .u32 0]++([Value.int .u32 0]++([Value.slice none 0 0]++([Value.slice none 0 0])))))))) Z sl3 s3 (R++N1++N2++N3) S (λb h=>List.mem_append_left _ (List.mem_append_left _ (List.mem_append_left _ (hS b h)))) A4 e3 (Nat.le_trans g3 hl) y3 w (by have e:A++[Value.int .i64 1]++(x2.1.map bv++[Value.int .u32 (x2.2:Int)])++(cs3)++((Z32++([Value.slice none 0 0]++([Value.int .u32 0]++([Value.int .u32 0]++([Value.slice none 0 0]++([Value.slice none 0 0])))))))++([Value.slice none 0 0]++Z)=A++[Value.int .i64 1]++(x2.1.map bv++[Value.int .u32 (x2.2:Int)])++(cs3)++((Z32++([Value.slice none 0 0]++([Value.int .u32 0]++([Value.int .u32 0]++([Value.slice none 0 0]++([Value.slice none 0 0]))))))++([Value.slice none 0 0]++Z)):=List.append_assoc ..; rw [e]; exact hw)) (λu M hM=>?_)
  obtain ⟨x5,s5,sl5,cs5,N5,a5,n5,o5,⟨v5,rfl,r5⟩,e5,h5,y5,rfl⟩:=hM
  refine Sy.nil ?_
  have hAf:After rdIN s ⟨1,x2.1,x2.2,x3,zPG,x5⟩ s5:=head (p:=rdIN) (After.mustY rfl (a2' (a3.bind (After.bind (by rw [if_neg (by decide)]; exact After.ret _ _) (a5.bind (After.ret _ _))))))
  have hRp:repIN (rdB (N1++(N2++(N3++N5)))) ([Value.int .i64 1]++(x2.1.map bv++[Value.int .u32 (x2.2:Int)]++(cs3++((Z32++([Value.slice none 0 0]++([Value.int .u32 0]++([Value.int .u32 0]++([Value.slice none 0 0]++([Value.slice none 0 0]))))))++([v5]))))) ⟨1,x2.1,x2.2,x3,zPG,x5⟩:=⟨cs3,(Z32++([Value.slice none 0 0]++([Value.int .u32 0]++([Value.int .u32 0]++([Value.slice none 0 0]++([Value.slice none 0 0])))))),v5,rfl,r2a,r2b,monoIS (rdB_le λb h=>by simp [h]) r3,zPG_rep _,LstR.le (rep:=repY) monoTT (rdB_le λb h=>by simp [h]) r5⟩
  exact Sy.retT0 rfl (CRS gc gr gx tx (A++(([Value.int .i64 1]++(x2.1.map bv++[Value.int .u32 (x2.2:Int)]++(cs3++((Z32++([Value.slice none 0 0]++([Value.int .u32 0]++([Value.int .u32 0]++([Value.slice none 0 0]++([Value.slice none 0 0]))))))++([v5])))))++Z)) sl5 s5.e (R++(N1++(N2++(N3++N5))))) (λ_ h=>by simpa only [List.append_assoc,List.cons_append,List.nil_append] using h) (λ_=>⟨_,s5,sl5,_,_,hAf,lenIN hRp,oneIN hRp,hRp,e5,Nat.le_trans h5 g3,y5,rfl⟩)
 refine sS (.bool false) (Quiet.pure (exec_int .eql _ _ _ .i64 _ _ _ rfl rfl rfl (int_eql _ _ _ _ _ (decide_eq_false hk1))))<|sp rfl ?_
 refine sG<|sU<|sC ?_
 by_cases hk2:x1=2
 ·subst hk2
  refine sP (.bool true)<|sp rfl ?_
  refine sG<|sT<|Sy.region ?_
  refine sp rfl<|sp rfl<|sp rfl<|sP (.pointer (some ⟨gx,f+84,none⟩)) ?_
  refine Sy.callT (λw hw=>peg_r w0.inn gc gr gx (f+84) tx (A++[Value.int .i64 2]++(x2.1.map bv++[Value.int .u32 (x2.2:Int)])++(cs3)) ([Value.slice none 0 0]++Z) sl3 s3 (R++N1++N2++N3) S (λb h=>List.mem_append_left _ (List.mem_append_left _ (List.mem_append_left _ (hS b h)))) A3 e3 (Nat.le_trans g3 hl) y3 w hw) (λu M hM=>?_)
  obtain ⟨x4,s4,sl4,cs4,N4,a4,n4,o4,r4,e4,h4,y4,rfl⟩:=hM
  have g4:s4.rest.length≤s.rest.length:=Nat.le_trans h4 g3
  have A4:(A++[Value.int .i64 2]++(x2.1.map bv++[Value.int .u32 (x2.2:Int)])++(cs3)++(cs4)).length=f+121:=by rw [List.length_append,A3,n4]
  refine Sy.nil<|Sy.in_<|Sy.then_<|Sy.region ?_
  refine sp rfl<|sp rfl<|sp rfl<|sP (.pointer (some ⟨gx,f+121,none⟩)) ?_
  refine Sy.callT (λw hw=>list_r_wit (rep:=repY) (p:=textP 256) one_y monoTT witness_r w0.inn gc gr gx (f+121) 16 (by decide) tx (A++[Value.int .i64 2]++(x2.1.map bv++[Value.int .u32 (x2.2:Int)])++(cs3)++(cs4)) Z sl4 s4 (R++N1++N2++N3++N4) S (λb h=>List.mem_append_left _ (List.mem_append_left _ (List.mem_append_left _ (List.mem_append_left _ (hS b h))))) A4 e4 (Nat.le_trans g4 hl) y4 w (by have e:A++[Value.int .i64 2]++(x2.1.map bv++[Value.int .u32 (x2.2:Int)])++(cs3)++(cs4)++([Value.slice none 0 0]++Z)=A++[Value.int .i64 2]++(x2.1.map bv++[Value.int .u32 (x2.2:Int)])++(cs3)++(cs4++([Value.slice none 0 0]++Z)):=List.append_assoc ..; rw [e]; exact hw)) (λu M hM=>?_)
  obtain ⟨x5,s5,sl5,cs5,N5,a5,n5,o5,⟨v5,rfl,r5⟩,e5,h5,y5,rfl⟩:=hM
  refine Sy.nil ?_
  have hAf:After rdIN s ⟨2,x2.1,x2.2,x3,x4,x5⟩ s5:=head (p:=rdIN) (After.mustY rfl (a2' (a3.bind (After.bind (by rw [if_pos rfl]; exact a4) (a5.bind (After.ret _ _))))))
  have hRp:repIN (rdB (N1++(N2++(N3++(N4++N5))))) ([Value.int .i64 2]++(x2.1.map bv++[Value.int .u32 (x2.2:Int)]++(cs3++(cs4++([v5]))))) ⟨2,x2.1,x2.2,x3,x4,x5⟩:=⟨cs3,cs4,v5,rfl,r2a,r2b,monoIS (rdB_le λb h=>by simp [h]) r3,monoPG (rdB_le λb h=>by simp [h]) r4,LstR.le (rep:=repY) monoTT (rdB_le λb h=>by simp [h]) r5⟩
  exact Sy.retT0 rfl (CRS gc gr gx tx (A++(([Value.int .i64 2]++(x2.1.map bv++[Value.int .u32 (x2.2:Int)]++(cs3++(cs4++([v5])))))++Z)) sl5 s5.e (R++(N1++(N2++(N3++(N4++N5)))))) (λ_ h=>by simpa only [List.append_assoc,List.cons_append,List.nil_append] using h) (λ_=>⟨_,s5,sl5,_,_,hAf,lenIN hRp,oneIN hRp,hRp,e5,Nat.le_trans h5 g4,y5,rfl⟩)
 refine sS (.bool false) (Quiet.pure (exec_int .eql _ _ _ .i64 _ _ _ rfl rfl rfl (int_eql _ _ _ _ _ (decide_eq_false hk2))))<|sp rfl ?_
 refine sG<|sU<|Sy.region ?_
 refine sp rfl ?_
 refine Sy.permS p5 ?_
 refine Sy.callT (λw hw=>must_r w0.inn gc gr sl3 s3.e e3 ((gx,tx,(A++[Value.int .i64 x1]++(x2.1.map bv++[Value.int .u32 (x2.2:Int)])++(cs3)++((Z32++([Value.slice none 0 0]++([Value.int .u32 0]++([Value.int .u32 0]++([Value.slice none 0 0]++([Value.slice none 0 0]))))))++([Value.slice none 0 0]++Z))).toArray)::(R++N1++N2++N3)) false w hw) (λu M hM=>?_)
 subst hM
 obtain ⟨e4,he4⟩:∃ e4,e4=if false=true then s3.e else if s3.e=0 then 120 else s3.e:=⟨_,rfl⟩
 rw [← he4]
 rw [if_neg (by decide)] at he4
 have hne:e4≠0:=by rw [he4]; split <;> omega
 have he4':e4≤200:=by rw [he4]; split <;> omega
 refine Sy.permS (M:=CRS gc gr gx tx (A++[Value.int .i64 x1]++(x2.1.map bv++[Value.int .u32 (x2.2:Int)])++(cs3)++((Z32++([Value.slice none 0 0]++([Value.int .u32 0]++([Value.int .u32 0]++([Value.slice none 0 0]++([Value.slice none 0 0]))))))++([Value.slice none 0 0]++Z))) sl3 e4 (R++N1++N2++N3)) swap23 ?_
 refine Sy.nil<|Sy.in_<|Sy.then_<|Sy.region ?_
 have A4:(A++[Value.int .i64 x1]++(x2.1.map bv++[Value.int .u32 (x2.2:Int)])++(cs3)++((Z32++([Value.slice none 0 0]++([Value.int .u32 0]++([Value.int .u32 0]++([Value.slice none 0 0]++([Value.slice none 0 0])))))))).length=f+121:=by rw [List.length_append,A3]; rfl
 refine sp rfl<|sp rfl<|sp rfl<|sP (.pointer (some ⟨gx,f+121,none⟩)) ?_
 refine Sy.callT (λw hw=>list_r_wit (rep:=repY) (p:=textP 256) one_y monoTT witness_r w0.inn gc gr gx (f+121) 16 (by decide) tx (A++[Value.int .i64 x1]++(x2.1.map bv++[Value.int .u32 (x2.2:Int)])++(cs3)++((Z32++([Value.slice none 0 0]++([Value.int .u32 0]++([Value.int .u32 0]++([Value.slice none 0 0]++([Value.slice none 0 0])))))))) Z sl3 ⟨s3.rest,e4⟩ (R++N1++N2++N3) S (λb h=>List.mem_append_left _ (List.mem_append_left _ (List.mem_append_left _ (hS b h)))) A4 he4' (Nat.le_trans g3 hl) y3 w (by have e:A++[Value.int .i64 x1]++(x2.1.map bv++[Value.int .u32 (x2.2:Int)])++(cs3)++((Z32++([Value.slice none 0 0]++([Value.int .u32 0]++([Value.int .u32 0]++([Value.slice none 0 0]++([Value.slice none 0 0])))))))++([Value.slice none 0 0]++Z)=A++[Value.int .i64 x1]++(x2.1.map bv++[Value.int .u32 (x2.2:Int)])++(cs3)++((Z32++([Value.slice none 0 0]++([Value.int .u32 0]++([Value.int .u32 0]++([Value.slice none 0 0]++([Value.slice none 0 0]))))))++([Value.slice none 0 0]++Z)):=List.append_assoc ..; rw [e]; exact hw)) (λu M hM=>?_)
 obtain ⟨x5,s5,sl5,cs5,N5,a5,n5,o5,⟨v5,rfl,r5⟩,e5,h5,y5,rfl⟩:=hM
 refine Sy.nil ?_
 have hAf:After rdIN s ⟨x1,x2.1,x2.2,x3,zPG,x5⟩ s5:=head (p:=rdIN) (by rw [okK2_of (λh=>h.elim hk1 hk2)]; exact After.mustX _ _ (a5.bad hne))
 have hRp:repIN (rdB (N1++(N2++(N3++N5)))) ([Value.int .i64 x1]++(x2.1.map bv++[Value.int .u32 (x2.2:Int)]++(cs3++((Z32++([Value.slice none 0 0]++([Value.int .u32 0]++([Value.int .u32 0]++([Value.slice none 0 0]++([Value.slice none 0 0]))))))++([v5]))))) ⟨x1,x2.1,x2.2,x3,zPG,x5⟩:=⟨cs3,(Z32++([Value.slice none 0 0]++([Value.int .u32 0]++([Value.int .u32 0]++([Value.slice none 0 0]++([Value.slice none 0 0])))))),v5,rfl,r2a,r2b,monoIS (rdB_le λb h=>by simp [h]) r3,zPG_rep _,LstR.le (rep:=repY) monoTT (rdB_le λb h=>by simp [h]) r5⟩
 exact Sy.retT0 rfl (CRS gc gr gx tx (A++(([Value.int .i64 x1]++(x2.1.map bv++[Value.int .u32 (x2.2:Int)]++(cs3++((Z32++([Value.slice none 0 0]++([Value.int .u32 0]++([Value.int .u32 0]++([Value.slice none 0 0]++([Value.slice none 0 0]))))))++([v5])))))++Z)) sl5 s5.e (R++(N1++(N2++(N3++N5))))) (λ_ h=>by simpa only [List.append_assoc,List.cons_append,List.nil_append] using h) (λ_=>⟨_,s5,sl5,_,_,hAf,lenIN hRp,oneIN hRp,hRp,e5,Nat.le_trans h5 g3,y5,rfl⟩)
noncomputable def inf_ins:TypeInfo:=(Tryz.prog.info? 83).getD default
theorem info_ins:Tryz.prog.info? 83=some inf_ins:=by kernel_rfl
noncomputable def K_ins:LK:=⟨83,23,132,201,133,202,205,286,285,335,62,108,109,111,112,171,208,63,122,376,([Value.int .i64 0]++((Z32++([Value.int .u32 0]))++(([Value.int .i64 0]++(([Value.bool false]++([Value.int .u64 0]++lPT ⟨0,0,false⟩))++([Value.slice none 0 0]++([Value.int .u64 0]++(Z32++(Cu.fws 0))))))++((Z32++([Value.slice none 0 0]++([Value.int .u32 0]++([Value.int .u32 0]++([Value.slice none 0 0]++([Value.slice none 0 0]))))))++([Value.slice none 0 0]))))),inf_ins⟩
theorem ok_ins:K_ins.Ok:={
 c_f0:=⟨_,_,Tryz.func62⟩,
 c_fL:=⟨_,_,Tryz.func108⟩,
 c_f1:=⟨_,_,Tryz.func109⟩,
 c_fP:=⟨_,_,Tryz.func111⟩,
 c_f2:=⟨_,_,Tryz.func112⟩,
 c_fI:=⟨_,_,Tryz.func171⟩,
 c_fJ:=⟨_,_,Tryz.func208⟩,
 ute:=⟨_,Tryz.underlying83,rfl⟩,
 uts:=Tryz.underlying23,
 ufw:=⟨_,Tryz.underlying133,rfl⟩,
 ufr:=⟨_,Tryz.underlying202,rfl⟩,
 inf:=info_ins,
 zero:=⟨_,rfl,by kernel_rfl⟩,
 size:=rfl,
 byt:=rfl,
 zl:=by kernel_rfl,
 pos:=(by decide:0<122),
 top:=(by decide:122≤16777216),
 btop:=(by decide:376≤100000000),
 its:=by kernel_rfl,
 ifw:=by kernel_rfl,
 ifr:=by kernel_rfl,
 zts:=⟨(Tryz.prog.info? 23).getD default,by kernel_rfl,by kernel_rfl⟩,
 e_fe:=enters_of Tryz.func63 kR rfl,
 e_f2:=enters_of Tryz.func112 kR rfl,
 e_fP:=enters_of Tryz.func111 kR rfl,
 e_f1:=enters_of Tryz.func109 kR rfl,
 e_fL:=enters_of Tryz.func108 kR rfl,
 e_fI:=enters_of Tryz.func171 kR rfl,
 e_fJ:=enters_of Tryz.func208 kR rfl }
theorem list_w_ins {α:Type} {rep:Rdr→List Value→α→Prop} {ok:α→Bool} {enc:α→Byt} {wt:α→Nat} (hm:Mono rep) (hp:PutO 63 122 rep ok enc wt) (w0:Base) (gc gw gx f most:Nat) (hmo:most<1000000) (bad:Bool) (s:Slc) (R:Blocks) (b:Byt) (v:Value) (l:List α) (hv:LstR (rdC w0 R) 122 rep v l) (hc:rdC w0 R gx f v) (hb:BS s b) (hlen:b.length+(9+(l.map wt).sum)≤70368744170000) (w:World) (hw:St w0 w (CWS gc gw bad s R)) :
  Calls Tryz.prog 62 #[ptr gc,.pointer (some ⟨gx,f,none⟩),.int .i64 (most:Int),.func (.func 63) #[] #[]] w (Turns w0 (WrC gc gw R (decide (l.length≤most) && l.all ok) (varB l.length++l.flatMap enc) (9+(l.map wt).sum) bad b)):=list_wG (rep:=rep) (ok:=ok) (enc:=enc) (wt:=wt) ok_ins hm hp w0 gc gw gx f most hmo bad s R b v l hv hc hb hlen w hw
theorem list_r_ins {α:Type} {rep:Rdr→List Value→α→Prop} {p:Ps α} (hm:Mono rep) (hp:GetC 63 122 (([Value.int .i64 0]++((Z32++([Value.int .u32 0]))++(([Value.int .i64 0]++(([Value.bool false]++([Value.int .u64 0]++lPT ⟨0,0,false⟩))++([Value.slice none 0 0]++([Value.int .u64 0]++(Z32++(Cu.fws 0))))))++((Z32++([Value.slice none 0 0]++([Value.int .u32 0]++([Value.int .u32 0]++([Value.slice none 0 0]++([Value.slice none 0 0]))))))++([Value.slice none 0 0])))))) rep p) (w0:Base) (gc gr gx f most:Nat) (hmost:most<1000000) (tx:TypeId) (A Z:List Value) (sl:Value) (s:RS) (R S:Blocks) (hS:∀ b∈S,b∈R) (hA:A.length=f) (he:s.e≤200) (hl:s.rest.length≤70368744177664) (hv:BytR (rdC w0 S) sl s.rest) (w:World) (hw:St w0 w (CRS gc gr gx tx (A++([Value.slice none 0 0]++Z)) sl s.e R)) :
  Calls Tryz.prog 62 #[ptr gc,.pointer (some ⟨gx,f,none⟩),.int .i64 (most:Int),.func (.func 63) #[] #[]] w (Turns w0 (RdT 1 (repL 122 rep) (listP most p) w0 gc gr gx tx A Z s R S)):=list_rG (rep:=rep) (p:=p) ok_ins hm hp w0 gc gr gx f most hmost tx A Z sl s R S hS hA he hl hv w hw
end Wr
end
section
namespace Wr
open Go.RowKit Sy
set_option maxRecDepth 100000
set_option maxHeartbeats 4000000
theorem tx_w:PutC 30 3 repTR okTR encTR wtTR:=λw0 gc gw gx f bad s R b cs x hx _ hc hb hl w hw=>by
 obtain ⟨af,is,os⟩:=x
 obtain ⟨vi,vo,rfl,h1,h2,h3⟩:=hx
 dsimp only at h1 h2 h3
 unfold wtTR at hl
 dsimp only at hl
 have c0:XAt (rdC w0 R) gx f ([.int .u64 (af:Int)]++([vi]++[vo])):=hc
 have c1:XAt (rdC w0 R) gx (f+1) ([vi]++[vo]):=c0.right (n:=1) rfl
 have c2:XAt (rdC w0 R) gx (f+2) [vo]:=c1.right (n:=1) rfl
 refine Sy.enterT (args:=[ptr gc,.pointer (some ⟨gx,f,none⟩)]) hw Tryz.func30 rfl kL ?_
 refine sC ?_
 refine sp rfl<|sp rfl<|sp rfl<|sP (.pointer (some ⟨gx,f,none⟩)) ?_
 refine Sy.callT (λw hw=>long_w w0.inn gc gw gx f bad s R b af h1 c0.one hb (by omega) w hw) (λu M hM=>?_)
 obtain ⟨s1,bad1,b1,q1,p1,rfl⟩:=hM
 have l1:b1.length≤b.length+8:=q1.len
 refine sA ?_
 refine sp rfl<|sp rfl<|sp rfl<|sP (.pointer (some ⟨gx,f+1,none⟩)) ?_
 refine Sy.callT (λw hw=>list_w_ins (rep:=repIN) monoIN in_w w0.inn gc gw gx (f+1) 16 (by decide) bad1 s1 R b1 vi is h2 c1.one p1 (by omega) w hw) (λu M hM=>?_)
 obtain ⟨s2,bad2,b2,q2,p2,rfl⟩:=hM
 have l2:b2.length≤b1.length+(9+(is.map wtIN).sum):=q2.len
 refine Sy.nil<|Sy.then_<|Sy.region ?_
 refine sp rfl<|sp rfl<|sp rfl<|sP (.pointer (some ⟨gx,f+2,none⟩)) ?_
 refine Sy.callT (λw hw=>list_w_ous (rep:=repOU) monoOU out_w w0.inn gc gw gx (f+2) 16 (by decide) bad2 s2 R b2 vo os h3 c2.one p2 (by omega) w hw) (λu M hM=>?_)
 obtain ⟨s3,bad3,b3,q3,p3,rfl⟩:=hM
 have l3:b3.length≤b2.length+(9+(os.map wtOU).sum):=q3.len
 refine Sy.nil ?_
 have q:=q1.then_ (q2.then_ q3)
 simp only [Bool.true_and] at q
 exact Sy.retT0 rfl (CWS gc gw bad3 s3 R) (λ_ h=>h) (λ_=>⟨s3,bad3,b3,q,p3,rfl⟩)
theorem tx_r:GetC 30 3 ([Value.int .u64 0]++([Value.slice none 0 0]++([Value.slice none 0 0]))) repTR rdTR:=λw0 gc gr gx f tx A Z sl s R S hS hA he hl hv w hw=>by
 refine Sy.enterT (args:=[ptr gc,.pointer (some ⟨gx,f,none⟩)]) hw Tryz.func30 rfl kL ?_
 refine sC ?_
 refine sp rfl<|sp rfl<|sp rfl<|sP (.pointer (some ⟨gx,f,none⟩)) ?_
 refine Sy.callT (λw hw=>long_r w0.inn gc gr gx f tx (A) ([Value.slice none 0 0]++([Value.slice none 0 0]++Z)) sl s (R) S hS hA he (hl) hv w (by simpa only [List.append_assoc] using hw)) (λu M hM=>?_)
 obtain ⟨x1,s1,sl1,cs1,N1,a1,n1,o1,⟨rfl,r1⟩,e1,h1,y1,rfl⟩:=hM
 have g1:s1.rest.length≤s.rest.length:=h1
 have A1:(A++[Value.int .u64 (x1:Int)]).length=f+1:=by rw [List.length_append,hA,n1]
 refine sA ?_
 refine sp rfl<|sp rfl<|sp rfl<|sP (.pointer (some ⟨gx,f+1,none⟩)) ?_
 refine Sy.callT (λw hw=>list_r_ins (rep:=repIN) (p:=rdIN) monoIN in_r w0.inn gc gr gx (f+1) 16 (by decide) tx (A++[Value.int .u64 (x1:Int)]) ([Value.slice none 0 0]++Z) sl1 s1 (R++N1) S (λb h=>List.mem_append_left _ (hS b h)) A1 e1 (Nat.le_trans g1 hl) y1 w (by have e:A++[Value.int .u64 (x1:Int)]++([Value.slice none 0 0]++([Value.slice none 0 0]++Z))=A++([Value.int .u64 (x1:Int)]++([Value.slice none 0 0]++([Value.slice none 0 0]++Z))):=List.append_assoc ..; rw [e]; exact hw)) (λu M hM=>?_)
 obtain ⟨x2,s2,sl2,cs2,N2,a2,n2,o2,⟨v2,rfl,r2⟩,e2,h2,y2,rfl⟩:=hM
 have g2:s2.rest.length≤s.rest.length:=Nat.le_trans h2 g1
 have A2:(A++[Value.int .u64 (x1:Int)]++[v2]).length=f+2:=by rw [List.length_append,A1,n2]
 refine Sy.nil<|Sy.then_<|Sy.region ?_
 refine sp rfl<|sp rfl<|sp rfl<|sP (.pointer (some ⟨gx,f+2,none⟩)) ?_
 refine Sy.callT (λw hw=>list_r_ous (rep:=repOU) (p:=rdOU) monoOU out_r w0.inn gc gr gx (f+2) 16 (by decide) tx (A++[Value.int .u64 (x1:Int)]++[v2]) (Z) sl2 s2 (R++N1++N2) S (λb h=>List.mem_append_left _ (List.mem_append_left _ (hS b h))) A2 e2 (Nat.le_trans g2 hl) y2 w (by have e:A++[Value.int .u64 (x1:Int)]++[v2]++([Value.slice none 0 0]++(Z))=A++[Value.int .u64 (x1:Int)]++([v2]++([Value.slice none 0 0]++(Z))):=List.append_assoc ..; rw [e]; exact hw)) (λu M hM=>?_)
 obtain ⟨x3,s3,sl3,cs3,N3,a3,n3,o3,⟨v3,rfl,r3⟩,e3,h3,y3,rfl⟩:=hM
 have g3:s3.rest.length≤s.rest.length:=Nat.le_trans h3 g2
 have A3:(A++[Value.int .u64 (x1:Int)]++[v2]++[v3]).length=f+3:=by rw [List.length_append,A2,n3]
 refine Sy.nil ?_
 have hAf:After rdTR s ⟨x1,x2,x3⟩ s3:=a1.bind (a2.bind (a3.bind (After.ret _ _)))
 have hLn:([Value.int .u64 (x1:Int)]++([v2]++([v3]))).length=3:=by rfl
 have hOn:∀ u∈([Value.int .u64 (x1:Int)]++([v2]++([v3]))),u.oneCell'=true:=ones_app o1 (ones_app o2 (o3))
 have hRp:repTR (rdB (N1++(N2++(N3)))) ([Value.int .u64 (x1:Int)]++([v2]++([v3]))) ⟨x1,x2,x3⟩:=⟨v2,v3,rfl,r1,LstR.le (rep:=repIN) monoIN (rdB_le λb h=>by simp [h]) r2,LstR.le (rep:=repOU) monoOU (rdB_le λb h=>by simp [h]) r3⟩
 exact Sy.retT0 rfl (CRS gc gr gx tx (A++(([Value.int .u64 (x1:Int)]++([v2]++([v3])))++Z)) sl3 s3.e (R++(N1++(N2++(N3))))) (λ_ h=>by simpa only [List.append_assoc,List.cons_append,List.nil_append] using h) (λ_=>⟨_,s3,sl3,_,_,hAf,hLn,hOn,hRp,e3,g3,y3,rfl⟩)
theorem signed_w:PutC 74 65 repSG okSG encSG (λ_=>65):=λw0 gc gw gx f bad s R b cs x hx _ hc hb hl w hw=>by
 obtain ⟨k,sg⟩:=x
 obtain ⟨rfl,h1⟩:=hx
 dsimp only at h1 hl
 have c0:XAt (rdC w0 R) gx f ([.int .i64 k]++sg.map bv):=hc
 have c1:XAt (rdC w0 R) gx (f+1) (sg.map bv):=c0.right (n:=1) rfl
 refine Sy.enterT (args:=[ptr gc,.pointer (some ⟨gx,f,none⟩)]) hw Tryz.func74 rfl kL ?_
 refine sC ?_
 refine sp rfl<|sp rfl<|sp rfl<|sP (.pointer (some ⟨gx,f,none⟩)) ?_
 refine Sy.callT (λw hw=>octet_w w0.inn gc gw gx f bad s R b k c0.one hb (by omega) w hw) (λu M hM=>?_)
 obtain ⟨s1,bad1,b1,q1,p1,rfl⟩:=hM
 have l1:b1.length≤b.length+1:=q1.len
 refine Sy.nil<|Sy.then_<|Sy.region ?_
 refine sp rfl<|sp rfl<|sp rfl<|sP (.pointer (some ⟨gx,f+1,none⟩))<|sP (.slice (some ⟨gx,f+1,none⟩) 64 64) ?_
 refine Sy.callT (λw hw=>raw_w w0.inn gc gw bad1 s1 R b1 sg _ (c1.byt h1 (by decide)) p1 (by omega) w hw) (λu M hM=>?_)
 obtain ⟨s2,bad2,b2,q2,p2,rfl⟩:=hM
 have l2:b2.length≤b1.length+sg.length:=q2.len
 refine Sy.nil ?_
 rw [h1] at q2
 have q:=q1.then_ q2
 simp only [Bool.and_true] at q
 exact Sy.retT0 rfl (CWS gc gw bad2 s2 R) (λ_ h=>h) (λ_=>⟨s2,bad2,b2,q,p2,rfl⟩)
theorem signed_r:GetC 74 65 ([Value.int .i64 0]++(((List.replicate 64 (0:UInt8)).map bv))) repSG rdSG:=λw0 gc gr gx f tx A Z sl s R S hS hA he hl hv w hw=>by
 refine Sy.enterT (args:=[ptr gc,.pointer (some ⟨gx,f,none⟩)]) hw Tryz.func74 rfl kL ?_
 refine sC ?_
 refine sp rfl<|sp rfl<|sp rfl<|sP (.pointer (some ⟨gx,f,none⟩)) ?_
 refine Sy.callT (λw hw=>octet_r w0.inn gc gr gx f tx (A) (((List.replicate 64 (0:UInt8)).map bv)++Z) sl s (R) S hS hA he (hl) hv w (by simpa only [List.append_assoc] using hw)) (λu M hM=>?_)
 obtain ⟨x1,s1,sl1,cs1,N1,a1,n1,o1,rfl,e1,h1,y1,rfl⟩:=hM
 have g1:s1.rest.length≤s.rest.length:=h1
 have A1:(A++[Value.int .i64 x1]).length=f+1:=by rw [List.length_append,hA,n1]
 refine Sy.nil<|Sy.then_<|Sy.region ?_
 refine sp rfl<|sp rfl<|sp rfl<|sP (.pointer (some ⟨gx,f+1,none⟩))<|sP (.slice (some ⟨gx,f+1,none⟩) 64 64) ?_
 refine Sy.callT (λw hw=>rawN_r 64 (by decide) (by decide) w0.inn gc gr gx (f+1) tx (A++[Value.int .i64 x1]) (Z) (List.replicate 64 0) (by decide) sl1 s1 (R++N1) S (λb h=>List.mem_append_left _ (hS b h)) A1 e1 (Nat.le_trans g1 hl) y1 w (by have e:A++[Value.int .i64 x1]++(((List.replicate 64 (0:UInt8)).map bv)++(Z))=A++([Value.int .i64 x1]++(((List.replicate 64 (0:UInt8)).map bv)++(Z))):=List.append_assoc ..; rw [e]; exact hw)) (λu M hM=>?_)
 obtain ⟨x2,s2,sl2,cs2,N2,a2,n2,o2,⟨rfl,r2⟩,e2,h2,y2,rfl⟩:=hM
 have g2:s2.rest.length≤s.rest.length:=Nat.le_trans h2 g1
 have A2:(A++[Value.int .i64 x1]++(x2.map bv)).length=f+65:=by rw [List.length_append,A1,n2]
 refine Sy.nil ?_
 have hAf:After rdSG s ⟨x1,x2⟩ s2:=a1.bind (a2.bind (After.ret _ _))
 have hLn:([Value.int .i64 x1]++(x2.map bv)).length=65:=by simp only [List.length_append,n2]; rfl
 have hOn:∀ u∈([Value.int .i64 x1]++(x2.map bv)),u.oneCell'=true:=ones_app o1 (o2)
 have hRp:repSG (rdB (N1++(N2))) ([Value.int .i64 x1]++(x2.map bv)) ⟨x1,x2⟩:=⟨rfl,r2⟩
 exact Sy.retT0 rfl (CRS gc gr gx tx (A++(([Value.int .i64 x1]++(x2.map bv))++Z)) sl2 s2.e (R++(N1++(N2)))) (λ_ h=>by simpa only [List.append_assoc,List.cons_append,List.nil_append] using h) (λ_=>⟨_,s2,sl2,_,_,hAf,hLn,hOn,hRp,e2,g2,y2,rfl⟩)
theorem write_txx {α:Type} {rep:Rdr→List Value→α→Prop} {ok:α→Bool} {enc:α→Byt} {wt:α→Nat} (hm:Mono rep) (hp:PutC 30 3 rep ok enc wt) (w:World) (cs:List Value) (x:α) (hx:rep (rdW w) cs x) (hl:cs.length=3) (hwt:wt x≤70368744170000) :
  Calls Tryz.prog 29 #[.agg cs.toArray,.func (.func 30) #[] #[]] w (GetsN w (BytE (ok x) (enc x))):=by
 refine Sy.enter (args:=[.agg cs.toArray,.func (.func 30) #[] #[]]) Tryz.func29 rfl kL ?_
 refine sC ?_
 refine sM 26 cs.toArray (λgx=>?_) kR (λw=>run_boxR rfl rfl (by kernel_rfl) hl w)
 refine sP (.slice none 0 0)<|sP (.int .i64 0) ?_
 refine sA ?_
 refine Sy.callN kR 59 #[] kF _ (λw _=>new_any w) (λv M hM=>?_)
 obtain ⟨gw,rfl,rfl⟩:=hM
 refine sP (.agg #[ptr gw,.pointer none,.bool false])<|sM 126 #[ptr gw,.pointer none,.bool false] (λgc=>?_)
 refine sp rfl ?_
 refine sA ?_
 refine Sy.permS (M:=CWS gc gw false nilS [(gx,26,cs.toArray)]) (Sy.perm_at [2,1,0] (by kernel_rfl) (by rfl)) ?_
 refine sp rfl<|sp rfl ?_
 refine Sy.callT (λw' hw=>hp (Base.of w) gc gw gx 0 false nilS [(gx,26,cs.toArray)] [] cs x (hm rdW_base hx) hl (memX (List.mem_singleton.2 rfl)) BS.nil (by show 0+_≤_; omega) w' hw) (λv M hM=>?_)
 obtain ⟨s,bad,b,q1,q2,rfl⟩:=hM
 have hbl:b.length≤wt x:=by have:=q1.len; simpa using this
 refine sG<|Sy.seq<|sC ?_
 refine sp rfl<|sp rfl<|sP (.pointer (some ⟨gc,2,none⟩))<|sS (.bool bad) (qc 0 2 rfl rfl Tryz.underlying4) ?_
 refine sG ?_
 cases bad
 ·have hok:ok x=true:=by
   have e:=q1.bad
   cases h:ok x with
   | true=>rfl
   | false=>rw [h] at e; cases e
  obtain rfl:b=enc x:=by have:=q1.bytes rfl; simpa using this
  refine sU<|Sy.skip<|sB ?_
  refine sp rfl<|sp rfl<|sP (.pointer (some ⟨gc,0,none⟩))<|sS (ptr gw) (qc 0 0 rfl rfl Tryz.underlying122) ?_
  refine Sy.callT (λw' hw=>bytes_any (Base.of w) gw s ((gc,126,#[ptr gw,.pointer none,.bool false])::[(gx,26,cs.toArray)]) (enc x) q2 (by omega) w' (hw.perm permCW)) (λv M hM=>?_)
  obtain ⟨N,hN,rfl⟩:=hM
  refine sp rfl<|sP (.int .i64 0) ?_
  refine sG<|Sy.ret ?_
  exact Sy.retGM2 N rfl (.inl (show _=_ by kernel_rfl)) (.inl (show _=_ by kernel_rfl)) (λ_ h=>h.less (List.sublist_append_right _ _)) (.inl ⟨hok,v,rfl,hN⟩)
 ·have hok:ok x=false:=by
   have e:=q1.bad
   cases h:ok x with
   | false=>rfl
   | true=>rw [h] at e; cases e
  refine sT<|sC ?_
  refine sP (.slice none 0 0)<|sP (.int .i64 120) ?_
  refine sG<|Sy.ret<|Sy.then_ret ?_
  exact Sy.retGM2 [] rfl (.inl (show _=_ by kernel_rfl)) (.inl (show _=_ by kernel_rfl)) (λ_ h=>h.none) (.inr ⟨hok,rfl,rfl⟩)
theorem ex_txx {α:Type} {rep:Rdr→List Value→α→Prop} {ok:α→Bool} {enc:α→Byt} {wt:α→Nat} (hm:Mono rep) (hp:PutC 30 3 rep ok enc wt) (w:World) (cs:List Value) (x:α) (hx:rep (rdW w) cs x) (hl:cs.length=3) (hwt:wt x≤70368744170000) :
  Calls Tryz.prog 7 #[.agg cs.toArray] w (GetsN w (BytE (ok x) (enc x))):=by
 refine Sy.enter (args:=[.agg cs.toArray]) Tryz.func7 rfl kL ?_
 refine sC ?_
 refine sM 26 cs.toArray (λgx=>?_) kR (λw=>run_boxR rfl rfl (by kernel_rfl) hl w)
 refine sP (.slice none 0 0)<|sP (.int .i64 0) ?_
 refine sA ?_
 refine sS (.agg cs.toArray) (rowC (R:=[(gx,26,cs.toArray)]) (memX (List.mem_singleton.2 rfl)) (λ_ h=>h) hl rfl Tryz.underlying26) ?_
 refine Sy.callN kR 29 #[.agg cs.toArray,.func (.func 30) #[] #[]] kF (BytE (ok x) (enc x)) (λw' hw=>write_txx (rep:=rep) hm hp w' cs x (hm (λg o u h=>rdC_world (R:=[]) hw (λ_ h=>by cases h) g o u (.inl h)) hx) hl hwt) (λv M hM=>?_)
 have hv:∃ a e:Value,v=.tuple #[a,e]:=by
  rcases hM with ⟨_,u,rfl,_⟩ | ⟨_,rfl,_⟩ <;> exact ⟨_,_,rfl⟩
 obtain ⟨a,e,rfl⟩:=hv
 refine sp rfl<|sp rfl<|sp rfl<|sp rfl ?_
 refine sG<|Sy.ret ?_
 exact Sy.retGM2 M rfl (.inl (show _=_ by kernel_rfl)) (.inl (show _=_ by kernel_rfl)) (λ_ h=>h.less (List.sublist_append_right _ _)) hM
theorem read_txx {α:Type} {rep:Rdr→List Value→α→Prop} {p:Ps α} (hm:Mono rep) (hp:GetC 30 3 ([Value.int .u64 0]++([Value.slice none 0 0]++([Value.slice none 0 0]))) rep p) (w:World) (v:Value) (b:Byt) (hv:BytR (rdW w) v b) (hl:b.length≤70368744177664) :
  Calls Tryz.prog 31 #[v,.func (.func 30) #[] #[]] w (GetsN w (RdE 3 ([Value.int .u64 0]++([Value.slice none 0 0]++([Value.slice none 0 0]))) rep (allP p b))):=by
 refine Sy.enter (args:=[v,.func (.func 30) #[] #[]]) Tryz.func31 rfl kL ?_
 refine sC ?_
 refine sM 26 ([Value.int .u64 0]++([Value.slice none 0 0]++([Value.slice none 0 0]))).toArray (λg4=>?_)
 refine sP (.int .i64 0) ?_
 refine sA ?_
 refine sM 26 ([Value.int .u64 0]++([Value.slice none 0 0]++([Value.slice none 0 0]))).toArray (λg6=>?_)
 refine sM 26 ([Value.int .u64 0]++([Value.slice none 0 0]++([Value.slice none 0 0]))).toArray (λg7=>?_)
 refine sA ?_
 refine sp rfl ?_
 refine Sy.callN kR 66 #[v] kF _ (λw' hw=>read_any w' v b (hv.at hw) hl) (λu M hM=>?_)
 obtain ⟨gr,sl,N0,hN0,rfl,rfl⟩:=hM
 refine sP (.agg #[.pointer none,ptr gr,.bool false])<|sM 126 #[.pointer none,ptr gr,.bool false] (λgc=>?_)
 refine Sy.permS (M:=CRS gc gr g6 26 ([]++(([Value.int .u64 0]++([Value.slice none 0 0]++([Value.slice none 0 0])))++[])) sl 0 ((g4,26,([Value.int .u64 0]++([Value.slice none 0 0]++([Value.slice none 0 0]))).toArray)::(g7,26,([Value.int .u64 0]++([Value.slice none 0 0]++([Value.slice none 0 0]))).toArray)::N0)) (Sy.flat_perm (ls:=[[(g4,26,([Value.int .u64 0]++([Value.slice none 0 0]++([Value.slice none 0 0]))).toArray)],[(g6,26,([Value.int .u64 0]++([Value.slice none 0 0]++([Value.slice none 0 0]))).toArray)],[(g7,26,([Value.int .u64 0]++([Value.slice none 0 0]++([Value.slice none 0 0]))).toArray)],[(gr,231,#[sl,.int .i64 0])],N0,[(gc,126,#[.pointer none,ptr gr,.bool false])]]) (ms:=[[(gc,126,#[.pointer none,ptr gr,.bool false])],[(g6,26,([Value.int .u64 0]++([Value.slice none 0 0]++([Value.slice none 0 0]))).toArray)],[(gr,231,#[sl,.int .i64 0])],[(g4,26,([Value.int .u64 0]++([Value.slice none 0 0]++([Value.slice none 0 0]))).toArray)],[(g7,26,([Value.int .u64 0]++([Value.slice none 0 0]++([Value.slice none 0 0]))).toArray)],N0]) [5,1,3,0,2,4] (by kernel_rfl) (by rfl) (by simp) (by simp)) ?_
 refine sp rfl ?_
 refine sA ?_
 refine sp rfl<|sp rfl ?_
 refine Sy.callT (λw' hw=>hp (Base.of w) gc gr g6 0 26 [] [] sl ⟨b,0⟩ ((g4,26,([Value.int .u64 0]++([Value.slice none 0 0]++([Value.slice none 0 0]))).toArray)::(g7,26,([Value.int .u64 0]++([Value.slice none 0 0]++([Value.slice none 0 0]))).toArray)::N0) N0 (λx h=>List.mem_cons_of_mem _ (List.mem_cons_of_mem _ h)) rfl (Nat.zero_le _) hl (hN0.byt.le rdB_base) w' hw) (λu M hM=>?_)
 obtain ⟨x,s',sl',cs,N,q1,q2,q3,q4,q5,q6,q7,rfl⟩:=hM
 rw [List.append_nil]
 obtain ⟨o1,o2⟩:=all_of q1
 obtain ⟨e,hE⟩:∃ e,e=if s'.e=0∧0<s'.rest.length then 113 else s'.e:=⟨_,rfl⟩
 have hEl:e≤200:=by rw [hE]; split <;> omega
 refine sG<|Sy.seq<|sC ?_
 obtain ⟨b1,hb1⟩:∃ z:Bool,z=decide (e≠0):=⟨_,rfl⟩
 refine sp rfl<|sp rfl<|sP (.pointer (some ⟨gc,1,none⟩))<|sS (ptr gr) (qc 0 1 rfl rfl Tryz.underlying124)<|sS (.int .i64 (e:Int)) (qg (λw' hw=>by rw [hE]; exact end_any (Base.of w) gr sl' s' N0 q5 q7 (List.mem_cons_of_mem _ (List.mem_cons_of_mem _ (List.mem_cons_self ..))) w' hw))<|sS (.bool b1) (Quiet.pure (exec_int .neq _ _ _ .i64 _ _ _ rfl rfl rfl (int_neq _ _ _ _ _ (by rw [hb1]; exact decide_eq_decide.2 (by omega))))) ?_
 refine sG ?_
 cases b1
 ·have l1:e=0:=Decidable.of_not_not (of_decide_eq_false hb1.symm)
  have l2:s'.e=0∧s'.rest=[]:=by
   by_cases h:s'.e=0∧0<s'.rest.length
   ·rw [if_pos h] at hE; omega
   ·rw [if_neg h] at hE
    exact ⟨by omega,List.eq_nil_of_length_eq_zero (by omega)⟩
  refine sU<|Sy.skip<|sB ?_
  refine sS (.agg cs.toArray) (Quiet.mid 1 g6 0 3 26 26 cs cs _ _ rfl kR rfl Tryz.underlying26 rfl kR (by rw [List.drop_zero,List.take_of_length_le (by omega)]) (by omega))<|sw 3 rfl cs.toArray (Writes.row 26 cs 3 _ _ rfl kR kR kR q2 (by kernel_rfl) q3)<|sP (.int .i64 0) ?_
  refine sG<|Sy.ret ?_
  exact Sy.retGM2 N rfl (.inl (Sy.Res.cell (ty':=26) g4 3 cs.toArray _ (by kernel_rfl) rfl Tryz.underlying26 rfl (by rw [List.size_toArray,q2]; kernel_rfl) rfl)) (.inl (show _=_ by kernel_rfl)) (λ_ h=>h.less (List.sublist_append_right [(gc,126,#[.pointer none,ptr gr,.bool false]),(g6,26,cs.toArray),(gr,231,#[sl',.int .i64 (s'.e:Int)]),(g4,26,cs.toArray),(g7,26,([Value.int .u64 0]++([Value.slice none 0 0]++([Value.slice none 0 0]))).toArray)] (N0++N) |> λh1=>(List.sublist_append_right N0 N).trans h1)) (.inl ⟨x,cs,o1 l2.1 l2.2,rfl,q2,q4⟩)
 ·have l1:e≠0:=of_decide_eq_true hb1.symm
  have l2:s'.e≠0∨s'.rest≠[]:=by
   by_cases h:s'.e=0∧0<s'.rest.length
   ·exact .inr (λe=>by rw [e] at h; exact absurd h.2 (by decide))
   ·rw [if_neg h] at hE; exact .inl (by omega)
  refine sT<|sC ?_
  refine sS (.agg ([Value.int .u64 0]++([Value.slice none 0 0]++([Value.slice none 0 0]))).toArray) (qk 4 0 3 rfl rfl Tryz.underlying26)<|sw 3 rfl ([Value.int .u64 0]++([Value.slice none 0 0]++([Value.slice none 0 0]))).toArray (wA rfl)<|sP (.int .i64 120) ?_
  refine sG<|Sy.ret<|Sy.then_ret ?_
  exact Sy.retGM2 [] rfl (.inl (Sy.Res.cell (ty':=26) g4 3 ([Value.int .u64 0]++([Value.slice none 0 0]++([Value.slice none 0 0]))).toArray _ (by kernel_rfl) rfl Tryz.underlying26 rfl (by kernel_rfl) rfl)) (.inl (show _=_ by kernel_rfl)) (λ_ h=>h.none) (.inr ⟨o2 l2,rfl,rfl⟩)
theorem rdx_txx {α:Type} {rep:Rdr→List Value→α→Prop} {p:Ps α} (hm:Mono rep) (hone:∀ {C:Rdr} {cs:List Value} {x:α},rep C cs x→∀ u∈cs,u.oneCell'=true) (hp:GetC 30 3 ([Value.int .u64 0]++([Value.slice none 0 0]++([Value.slice none 0 0]))) rep p) (w:World) (v:Value) (b:Byt) (hv:BytR (rdW w) v b) (hl:b.length≤70368744177664) :
  Calls Tryz.prog 8 #[v] w (GetsN w (RdE 3 ([Value.int .u64 0]++([Value.slice none 0 0]++([Value.slice none 0 0]))) rep (allP p b))):=by
 refine Sy.enter (args:=[v]) Tryz.func8 rfl kL ?_
 refine sC ?_
 refine sM 26 ([Value.int .u64 0]++([Value.slice none 0 0]++([Value.slice none 0 0]))).toArray (λg2=>?_)
 refine sP (.int .i64 0) ?_
 refine sA ?_
 refine sp rfl ?_
 refine Sy.callN kR 31 #[v,.func (.func 30) #[] #[]] kF _ (λw' hw=>read_txx (rep:=rep) (p:=p) hm hp w' v b (hv.at hw) hl) (λu M hM=>?_)
 rcases hM with ⟨x,cs,o1,rfl,q2,q4⟩ | ⟨o1,rfl,rfl⟩
 ·have q3:∀ u∈cs,u.oneCell'=true:=hone q4
  refine sp rfl<|sp rfl<|sw 0 rfl cs.toArray (Writes.row 26 cs 3 _ _ rfl kR kR kR q2 (by kernel_rfl) q3)<|sp rfl ?_
  refine sG<|Sy.ret ?_
  exact Sy.retGM2 M rfl (.inl (Sy.Res.cell (ty':=26) g2 0 cs.toArray _ (by kernel_rfl) rfl Tryz.underlying26 rfl (by rw [List.size_toArray,q2]; kernel_rfl) rfl)) (.inl (show _=_ by kernel_rfl)) (λ_ h=>h.less (List.sublist_cons_self _ _)) (.inl ⟨x,cs,o1,rfl,q2,q4⟩)
 ·refine sp rfl<|sp rfl<|sw 0 rfl ([Value.int .u64 0]++([Value.slice none 0 0]++([Value.slice none 0 0]))).toArray (wA rfl)<|sp rfl ?_
  refine sG<|Sy.ret ?_
  exact Sy.retGM2 [] rfl (.inl (Sy.Res.cell (ty':=26) g2 0 ([Value.int .u64 0]++([Value.slice none 0 0]++([Value.slice none 0 0]))).toArray _ (by kernel_rfl) rfl Tryz.underlying26 rfl (by kernel_rfl) rfl)) (.inl (show _=_ by kernel_rfl)) (λ_ h=>h.none) (.inr ⟨o1,rfl,rfl⟩)
end Wr
end
section
namespace Wr
open Go.RowKit Sy
set_option maxRecDepth 100000
set_option maxHeartbeats 4000000
noncomputable def inf_sgs:TypeInfo:=(Tryz.prog.info? 152).getD default
theorem info_sgs:Tryz.prog.info? 152=some inf_sgs:=by kernel_rfl
noncomputable def K_sgs:LK:=⟨152,35,153,243,154,244,246,314,313,365,73,133,134,135,136,193,233,74,65,72,([Value.int .i64 0]++(List.replicate 64 (0:UInt8)).map bv),inf_sgs⟩
theorem ok_sgs:K_sgs.Ok:={
 c_f0:=⟨_,_,Tryz.func73⟩,
 c_fL:=⟨_,_,Tryz.func133⟩,
 c_f1:=⟨_,_,Tryz.func134⟩,
 c_fP:=⟨_,_,Tryz.func135⟩,
 c_f2:=⟨_,_,Tryz.func136⟩,
 c_fI:=⟨_,_,Tryz.func193⟩,
 c_fJ:=⟨_,_,Tryz.func233⟩,
 ute:=⟨_,Tryz.underlying152,rfl⟩,
 uts:=Tryz.underlying35,
 ufw:=⟨_,Tryz.underlying154,rfl⟩,
 ufr:=⟨_,Tryz.underlying244,rfl⟩,
 inf:=info_sgs,
 zero:=⟨_,rfl,by kernel_rfl⟩,
 size:=rfl,
 byt:=rfl,
 zl:=by kernel_rfl,
 pos:=(by decide:0<65),
 top:=(by decide:65≤16777216),
 btop:=(by decide:72≤100000000),
 its:=by kernel_rfl,
 ifw:=by kernel_rfl,
 ifr:=by kernel_rfl,
 zts:=⟨(Tryz.prog.info? 35).getD default,by kernel_rfl,by kernel_rfl⟩,
 e_fe:=enters_of Tryz.func74 kR rfl,
 e_f2:=enters_of Tryz.func136 kR rfl,
 e_fP:=enters_of Tryz.func135 kR rfl,
 e_f1:=enters_of Tryz.func134 kR rfl,
 e_fL:=enters_of Tryz.func133 kR rfl,
 e_fI:=enters_of Tryz.func193 kR rfl,
 e_fJ:=enters_of Tryz.func233 kR rfl }
theorem list_w_sgs {α:Type} {rep:Rdr→List Value→α→Prop} {ok:α→Bool} {enc:α→Byt} {wt:α→Nat} (hm:Mono rep) (hp:PutC 74 65 rep ok enc wt) (w0:Base) (gc gw gx f most:Nat) (hmo:most<1000000) (bad:Bool) (s:Slc) (R:Blocks) (b:Byt) (v:Value) (l:List α) (hv:LstR (rdC w0 R) 65 rep v l) (hc:rdC w0 R gx f v) (hb:BS s b) (hlen:b.length+(9+(l.map wt).sum)≤70368744170000) (w:World) (hw:St w0 w (CWS gc gw bad s R)) :
  Calls Tryz.prog 73 #[ptr gc,.pointer (some ⟨gx,f,none⟩),.int .i64 (most:Int),.func (.func 74) #[] #[]] w (Turns w0 (WrC gc gw R (decide (l.length≤most) && l.all ok) (varB l.length++l.flatMap enc) (9+(l.map wt).sum) bad b)):=list_wG (rep:=rep) (ok:=ok) (enc:=enc) (wt:=wt) ok_sgs hm hp.own w0 gc gw gx f most hmo bad s R b v l hv hc hb hlen w hw
theorem list_r_sgs {α:Type} {rep:Rdr→List Value→α→Prop} {p:Ps α} (hm:Mono rep) (hp:GetC 74 65 (([Value.int .i64 0]++(List.replicate 64 (0:UInt8)).map bv)) rep p) (w0:Base) (gc gr gx f most:Nat) (hmost:most<1000000) (tx:TypeId) (A Z:List Value) (sl:Value) (s:RS) (R S:Blocks) (hS:∀ b∈S,b∈R) (hA:A.length=f) (he:s.e≤200) (hl:s.rest.length≤70368744177664) (hv:BytR (rdC w0 S) sl s.rest) (w:World) (hw:St w0 w (CRS gc gr gx tx (A++([Value.slice none 0 0]++Z)) sl s.e R)) :
  Calls Tryz.prog 73 #[ptr gc,.pointer (some ⟨gx,f,none⟩),.int .i64 (most:Int),.func (.func 74) #[] #[]] w (Turns w0 (RdT 1 (repL 65 rep) (listP most p) w0 gc gr gx tx A Z s R S)):=list_rG (rep:=rep) (p:=p) ok_sgs hm hp w0 gc gr gx f most hmost tx A Z sl s R S hS hA he hl hv w hw
noncomputable def inf_txs:TypeInfo:=(Tryz.prog.info? 26).getD default
theorem info_txs:Tryz.prog.info? 26=some inf_txs:=by kernel_rfl
noncomputable def K_txs:LK:=⟨26,36,157,127,92,248,250,317,316,366,75,138,139,140,141,196,234,30,3,56,[Value.int .u64 0]++([Value.slice none 0 0]++([Value.slice none 0 0])),inf_txs⟩
theorem ok_txs:K_txs.Ok:={
 c_f0:=⟨_,_,Tryz.func75⟩,
 c_fL:=⟨_,_,Tryz.func138⟩,
 c_f1:=⟨_,_,Tryz.func139⟩,
 c_fP:=⟨_,_,Tryz.func140⟩,
 c_f2:=⟨_,_,Tryz.func141⟩,
 c_fI:=⟨_,_,Tryz.func196⟩,
 c_fJ:=⟨_,_,Tryz.func234⟩,
 ute:=⟨_,Tryz.underlying26,rfl⟩,
 uts:=Tryz.underlying36,
 ufw:=⟨_,Tryz.underlying92,rfl⟩,
 ufr:=⟨_,Tryz.underlying248,rfl⟩,
 inf:=info_txs,
 zero:=⟨_,rfl,by kernel_rfl⟩,
 size:=rfl,
 byt:=rfl,
 zl:=by kernel_rfl,
 pos:=(by decide:0<3),
 top:=(by decide:3≤16777216),
 btop:=(by decide:56≤100000000),
 its:=by kernel_rfl,
 ifw:=by kernel_rfl,
 ifr:=by kernel_rfl,
 zts:=⟨(Tryz.prog.info? 36).getD default,by kernel_rfl,by kernel_rfl⟩,
 e_fe:=enters_of Tryz.func30 kR rfl,
 e_f2:=enters_of Tryz.func141 kR rfl,
 e_fP:=enters_of Tryz.func140 kR rfl,
 e_f1:=enters_of Tryz.func139 kR rfl,
 e_fL:=enters_of Tryz.func138 kR rfl,
 e_fI:=enters_of Tryz.func196 kR rfl,
 e_fJ:=enters_of Tryz.func234 kR rfl }
theorem list_w_txs {α:Type} {rep:Rdr→List Value→α→Prop} {ok:α→Bool} {enc:α→Byt} {wt:α→Nat} (hm:Mono rep) (hp:PutC 30 3 rep ok enc wt) (w0:Base) (gc gw gx f most:Nat) (hmo:most<1000000) (bad:Bool) (s:Slc) (R:Blocks) (b:Byt) (v:Value) (l:List α) (hv:LstR (rdC w0 R) 3 rep v l) (hc:rdC w0 R gx f v) (hb:BS s b) (hlen:b.length+(9+(l.map wt).sum)≤70368744170000) (w:World) (hw:St w0 w (CWS gc gw bad s R)) :
  Calls Tryz.prog 75 #[ptr gc,.pointer (some ⟨gx,f,none⟩),.int .i64 (most:Int),.func (.func 30) #[] #[]] w (Turns w0 (WrC gc gw R (decide (l.length≤most) && l.all ok) (varB l.length++l.flatMap enc) (9+(l.map wt).sum) bad b)):=list_wG (rep:=rep) (ok:=ok) (enc:=enc) (wt:=wt) ok_txs hm hp.own w0 gc gw gx f most hmo bad s R b v l hv hc hb hlen w hw
theorem list_r_txs {α:Type} {rep:Rdr→List Value→α→Prop} {p:Ps α} (hm:Mono rep) (hp:GetC 30 3 ([Value.int .u64 0]++([Value.slice none 0 0]++([Value.slice none 0 0]))) rep p) (w0:Base) (gc gr gx f most:Nat) (hmost:most<1000000) (tx:TypeId) (A Z:List Value) (sl:Value) (s:RS) (R S:Blocks) (hS:∀ b∈S,b∈R) (hA:A.length=f) (he:s.e≤200) (hl:s.rest.length≤70368744177664) (hv:BytR (rdC w0 S) sl s.rest) (w:World) (hw:St w0 w (CRS gc gr gx tx (A++([Value.slice none 0 0]++Z)) sl s.e R)) :
  Calls Tryz.prog 75 #[ptr gc,.pointer (some ⟨gx,f,none⟩),.int .i64 (most:Int),.func (.func 30) #[] #[]] w (Turns w0 (RdT 1 (repL 3 rep) (listP most p) w0 gc gr gx tx A Z s R S)):=list_rG (rep:=rep) (p:=p) ok_txs hm hp w0 gc gr gx f most hmost tx A Z sl s R S hS hA he hl hv w hw
theorem block_w:PutO 35 104 repBL okBL encBL wtBL:=λw0 gc gw gx f bad s R b cs x hx _ hc hb hl w hw=>by
 obtain ⟨hd,sg,tx⟩:=x
 obtain ⟨ch,vs,vt,rfl,h1,h2,h3⟩:=hx
 dsimp only at h1 h2 h3
 unfold wtBL at hl
 dsimp only at hl
 have e1:=lenHE h1
 have c0:OwnAt R gx f (ch++([vs]++[vt])):=hc
 have c1:OwnAt R gx (f+102) ([vs]++[vt]):=c0.right e1
 have c2:OwnAt R gx (f+103) [vt]:=c1.right (n:=1) rfl
 refine Sy.enterT (args:=[ptr gc,.pointer (some ⟨gx,f,none⟩)]) hw Tryz.func35 rfl kL ?_
 refine sC ?_
 refine sp rfl<|sp rfl<|sp rfl<|sP (.pointer (some ⟨gx,f,none⟩)) ?_
 refine Sy.callT (λw hw=>header_w w0.inn gc gw gx f bad s R b ch hd h1 e1 c0.left hb (by omega) w hw) (λu M hM=>?_)
 obtain ⟨s1,bad1,b1,q1,p1,rfl⟩:=hM
 have l1:b1.length≤b.length+wtHE hd:=q1.len
 refine sA ?_
 refine sp rfl<|sp rfl<|sp rfl<|sP (.pointer (some ⟨gx,f+102,none⟩)) ?_
 refine Sy.callT (λw hw=>list_w_sgs (rep:=repSG) monoSG signed_w w0.inn gc gw gx (f+102) 16 (by decide) bad1 s1 R b1 vs sg h2 (c1.at w0.inn).one p1 (by omega) w hw) (λu M hM=>?_)
 obtain ⟨s2,bad2,b2,q2,p2,rfl⟩:=hM
 have l2:b2.length≤b1.length+(9+(sg.map λ_=>65).sum):=q2.len
 refine Sy.nil<|Sy.then_<|Sy.region ?_
 refine sp rfl<|sp rfl<|sp rfl<|sP (.pointer (some ⟨gx,f+103,none⟩)) ?_
 refine Sy.callT (λw hw=>list_w_txs (rep:=repTR) monoTR tx_w w0.inn gc gw gx (f+103) 64 (by decide) bad2 s2 R b2 vt tx h3 (c2.at w0.inn).one p2 (by omega) w hw) (λu M hM=>?_)
 obtain ⟨s3,bad3,b3,q3,p3,rfl⟩:=hM
 have l3:b3.length≤b2.length+(9+(tx.map wtTR).sum):=q3.len
 refine Sy.nil ?_
 have q:=q1.then_ (q2.then_ q3)
 skip
 exact Sy.retT0 rfl (CWS gc gw bad3 s3 R) (λ_ h=>h) (λ_=>⟨s3,bad3,b3,q,p3,rfl⟩)
theorem block_r:GetC 35 104 ((Z32++([Value.int .u64 0]++([Value.int .u64 0]++(Z32++(Z32++([Value.slice none 0 0]++([Value.bool false]++([Value.int .i64 0]++[Value.slice none 0 0]))))))))++([Value.slice none 0 0]++([Value.slice none 0 0]))) repBL rdBL:=λw0 gc gr gx f tx A Z sl s R S hS hA he hl hv w hw=>by
 refine Sy.enterT (args:=[ptr gc,.pointer (some ⟨gx,f,none⟩)]) hw Tryz.func35 rfl kL ?_
 refine sC ?_
 refine sp rfl<|sp rfl<|sp rfl<|sP (.pointer (some ⟨gx,f,none⟩)) ?_
 refine Sy.callT (λw hw=>header_r w0.inn gc gr gx f tx (A) ([Value.slice none 0 0]++([Value.slice none 0 0]++Z)) sl s (R) S hS hA he (hl) hv w (by simpa only [List.append_assoc] using hw)) (λu M hM=>?_)
 obtain ⟨x1,s1,sl1,cs1,N1,a1,n1,o1,r1,e1,h1,y1,rfl⟩:=hM
 have g1:s1.rest.length≤s.rest.length:=h1
 have A1:(A++(cs1)).length=f+102:=by rw [List.length_append,hA,n1]
 refine sA ?_
 refine sp rfl<|sp rfl<|sp rfl<|sP (.pointer (some ⟨gx,f+102,none⟩)) ?_
 refine Sy.callT (λw hw=>list_r_sgs (rep:=repSG) (p:=rdSG) monoSG signed_r w0.inn gc gr gx (f+102) 16 (by decide) tx (A++(cs1)) ([Value.slice none 0 0]++Z) sl1 s1 (R++N1) S (λb h=>List.mem_append_left _ (hS b h)) A1 e1 (Nat.le_trans g1 hl) y1 w (by have e:A++(cs1)++([Value.slice none 0 0]++([Value.slice none 0 0]++Z))=A++(cs1++([Value.slice none 0 0]++([Value.slice none 0 0]++Z))):=List.append_assoc ..; rw [e]; exact hw)) (λu M hM=>?_)
 obtain ⟨x2,s2,sl2,cs2,N2,a2,n2,o2,⟨v2,rfl,r2⟩,e2,h2,y2,rfl⟩:=hM
 have g2:s2.rest.length≤s.rest.length:=Nat.le_trans h2 g1
 have A2:(A++(cs1)++[v2]).length=f+103:=by rw [List.length_append,A1,n2]
 refine Sy.nil<|Sy.then_<|Sy.region ?_
 refine sp rfl<|sp rfl<|sp rfl<|sP (.pointer (some ⟨gx,f+103,none⟩)) ?_
 refine Sy.callT (λw hw=>list_r_txs (rep:=repTR) (p:=rdTR) monoTR tx_r w0.inn gc gr gx (f+103) 64 (by decide) tx (A++(cs1)++[v2]) (Z) sl2 s2 (R++N1++N2) S (λb h=>List.mem_append_left _ (List.mem_append_left _ (hS b h))) A2 e2 (Nat.le_trans g2 hl) y2 w (by have e:A++(cs1)++[v2]++([Value.slice none 0 0]++(Z))=A++(cs1)++([v2]++([Value.slice none 0 0]++(Z))):=List.append_assoc ..; rw [e]; exact hw)) (λu M hM=>?_)
 obtain ⟨x3,s3,sl3,cs3,N3,a3,n3,o3,⟨v3,rfl,r3⟩,e3,h3,y3,rfl⟩:=hM
 have g3:s3.rest.length≤s.rest.length:=Nat.le_trans h3 g2
 have A3:(A++(cs1)++[v2]++[v3]).length=f+104:=by rw [List.length_append,A2,n3]
 refine Sy.nil ?_
 have hAf:After rdBL s ⟨x1,x2,x3⟩ s3:=a1.bind (a2.bind (a3.bind (After.ret _ _)))
 have hLn:(cs1++([v2]++([v3]))).length=104:=by simp only [List.length_append,n1]; rfl
 have hOn:∀ u∈(cs1++([v2]++([v3]))),u.oneCell'=true:=ones_app o1 (ones_app o2 (o3))
 have hRp:repBL (rdB (N1++(N2++(N3)))) (cs1++([v2]++([v3]))) ⟨x1,x2,x3⟩:=⟨cs1,v2,v3,rfl,monoHE (rdB_le λb h=>by simp [h]) r1,LstR.le (rep:=repSG) monoSG (rdB_le λb h=>by simp [h]) r2,LstR.le (rep:=repTR) monoTR (rdB_le λb h=>by simp [h]) r3⟩
 exact Sy.retT0 rfl (CRS gc gr gx tx (A++((cs1++([v2]++([v3])))++Z)) sl3 s3.e (R++(N1++(N2++(N3))))) (λ_ h=>by simpa only [List.append_assoc,List.cons_append,List.nil_append] using h) (λ_=>⟨_,s3,sl3,_,_,hAf,hLn,hOn,hRp,e3,g3,y3,rfl⟩)
theorem write_blk {α:Type} {rep:Rdr→List Value→α→Prop} {ok:α→Bool} {enc:α→Byt} {wt:α→Nat} (hm:Mono rep) (hp:PutO 35 104 rep ok enc wt) (w:World) (cs:List Value) (x:α) (hx:rep (rdW w) cs x) (hl:cs.length=104) (hwt:wt x≤70368744170000) :
  Calls Tryz.prog 34 #[.agg cs.toArray,.func (.func 35) #[] #[]] w (GetsN w (BytE (ok x) (enc x))):=by
 refine Sy.enter (args:=[.agg cs.toArray,.func (.func 35) #[] #[]]) Tryz.func34 rfl kL ?_
 refine sC ?_
 refine sM 38 cs.toArray (λgx=>?_) kR (λw=>run_boxR rfl rfl (by kernel_rfl) hl w)
 refine sP (.slice none 0 0)<|sP (.int .i64 0) ?_
 refine sA ?_
 refine Sy.callN kR 59 #[] kF _ (λw _=>new_any w) (λv M hM=>?_)
 obtain ⟨gw,rfl,rfl⟩:=hM
 refine sP (.agg #[ptr gw,.pointer none,.bool false])<|sM 126 #[ptr gw,.pointer none,.bool false] (λgc=>?_)
 refine sp rfl ?_
 refine sA ?_
 refine Sy.permS (M:=CWS gc gw false nilS [(gx,38,cs.toArray)]) (Sy.perm_at [2,1,0] (by kernel_rfl) (by rfl)) ?_
 refine sp rfl<|sp rfl ?_
 refine Sy.callT (λw' hw=>hp (Base.of w) gc gw gx 0 false nilS [(gx,38,cs.toArray)] [] cs x (hm rdW_base hx) hl (ownX (List.mem_singleton.2 rfl)) BS.nil (by show 0+_≤_; omega) w' hw) (λv M hM=>?_)
 obtain ⟨s,bad,b,q1,q2,rfl⟩:=hM
 have hbl:b.length≤wt x:=by have:=q1.len; simpa using this
 refine sG<|Sy.seq<|sC ?_
 refine sp rfl<|sp rfl<|sP (.pointer (some ⟨gc,2,none⟩))<|sS (.bool bad) (qc 0 2 rfl rfl Tryz.underlying4) ?_
 refine sG ?_
 cases bad
 ·have hok:ok x=true:=by
   have e:=q1.bad
   cases h:ok x with
   | true=>rfl
   | false=>rw [h] at e; cases e
  obtain rfl:b=enc x:=by have:=q1.bytes rfl; simpa using this
  refine sU<|Sy.skip<|sB ?_
  refine sp rfl<|sp rfl<|sP (.pointer (some ⟨gc,0,none⟩))<|sS (ptr gw) (qc 0 0 rfl rfl Tryz.underlying122) ?_
  refine Sy.callT (λw' hw=>bytes_any (Base.of w) gw s ((gc,126,#[ptr gw,.pointer none,.bool false])::[(gx,38,cs.toArray)]) (enc x) q2 (by omega) w' (hw.perm permCW)) (λv M hM=>?_)
  obtain ⟨N,hN,rfl⟩:=hM
  refine sp rfl<|sP (.int .i64 0) ?_
  refine sG<|Sy.ret ?_
  exact Sy.retGM2 N rfl (.inl (show _=_ by kernel_rfl)) (.inl (show _=_ by kernel_rfl)) (λ_ h=>h.less (List.sublist_append_right _ _)) (.inl ⟨hok,v,rfl,hN⟩)
 ·have hok:ok x=false:=by
   have e:=q1.bad
   cases h:ok x with
   | false=>rfl
   | true=>rw [h] at e; cases e
  refine sT<|sC ?_
  refine sP (.slice none 0 0)<|sP (.int .i64 120) ?_
  refine sG<|Sy.ret<|Sy.then_ret ?_
  exact Sy.retGM2 [] rfl (.inl (show _=_ by kernel_rfl)) (.inl (show _=_ by kernel_rfl)) (λ_ h=>h.none) (.inr ⟨hok,rfl,rfl⟩)
theorem ex_blk {α:Type} {rep:Rdr→List Value→α→Prop} {ok:α→Bool} {enc:α→Byt} {wt:α→Nat} (hm:Mono rep) (hp:PutO 35 104 rep ok enc wt) (w:World) (cs:List Value) (x:α) (hx:rep (rdW w) cs x) (hl:cs.length=104) (hwt:wt x≤70368744170000) :
  Calls Tryz.prog 11 #[.agg cs.toArray] w (GetsN w (BytE (ok x) (enc x))):=by
 refine Sy.enter (args:=[.agg cs.toArray]) Tryz.func11 rfl kL ?_
 refine sC ?_
 refine sM 38 cs.toArray (λgx=>?_) kR (λw=>run_boxR rfl rfl (by kernel_rfl) hl w)
 refine sP (.slice none 0 0)<|sP (.int .i64 0) ?_
 refine sA ?_
 refine sS (.agg cs.toArray) (rowC (R:=[(gx,38,cs.toArray)]) (memX (List.mem_singleton.2 rfl)) (λ_ h=>h) hl rfl Tryz.underlying38) ?_
 refine Sy.callN kR 34 #[.agg cs.toArray,.func (.func 35) #[] #[]] kF (BytE (ok x) (enc x)) (λw' hw=>write_blk (rep:=rep) hm hp w' cs x (hm (λg o u h=>rdC_world (R:=[]) hw (λ_ h=>by cases h) g o u (.inl h)) hx) hl hwt) (λv M hM=>?_)
 have hv:∃ a e:Value,v=.tuple #[a,e]:=by
  rcases hM with ⟨_,u,rfl,_⟩ | ⟨_,rfl,_⟩ <;> exact ⟨_,_,rfl⟩
 obtain ⟨a,e,rfl⟩:=hv
 refine sp rfl<|sp rfl<|sp rfl<|sp rfl ?_
 refine sG<|Sy.ret ?_
 exact Sy.retGM2 M rfl (.inl (show _=_ by kernel_rfl)) (.inl (show _=_ by kernel_rfl)) (λ_ h=>h.less (List.sublist_append_right _ _)) hM
theorem read_blk {α:Type} {rep:Rdr→List Value→α→Prop} {p:Ps α} (hm:Mono rep) (hp:GetC 35 104 ((Z32++([Value.int .u64 0]++([Value.int .u64 0]++(Z32++(Z32++([Value.slice none 0 0]++([Value.bool false]++([Value.int .i64 0]++[Value.slice none 0 0]))))))))++([Value.slice none 0 0]++([Value.slice none 0 0]))) rep p) (w:World) (v:Value) (b:Byt) (hv:BytR (rdW w) v b) (hl:b.length≤70368744177664) :
  Calls Tryz.prog 39 #[v,.func (.func 35) #[] #[]] w (GetsN w (RdE 104 ((Z32++([Value.int .u64 0]++([Value.int .u64 0]++(Z32++(Z32++([Value.slice none 0 0]++([Value.bool false]++([Value.int .i64 0]++[Value.slice none 0 0]))))))))++([Value.slice none 0 0]++([Value.slice none 0 0]))) rep (allP p b))):=by
 refine Sy.enter (args:=[v,.func (.func 35) #[] #[]]) Tryz.func39 rfl kL ?_
 refine sC ?_
 refine sM 38 ((Z32++([Value.int .u64 0]++([Value.int .u64 0]++(Z32++(Z32++([Value.slice none 0 0]++([Value.bool false]++([Value.int .i64 0]++[Value.slice none 0 0]))))))))++([Value.slice none 0 0]++([Value.slice none 0 0]))).toArray (λg4=>?_)
 refine sP (.int .i64 0) ?_
 refine sA ?_
 refine sM 38 ((Z32++([Value.int .u64 0]++([Value.int .u64 0]++(Z32++(Z32++([Value.slice none 0 0]++([Value.bool false]++([Value.int .i64 0]++[Value.slice none 0 0]))))))))++([Value.slice none 0 0]++([Value.slice none 0 0]))).toArray (λg6=>?_)
 refine sM 38 ((Z32++([Value.int .u64 0]++([Value.int .u64 0]++(Z32++(Z32++([Value.slice none 0 0]++([Value.bool false]++([Value.int .i64 0]++[Value.slice none 0 0]))))))))++([Value.slice none 0 0]++([Value.slice none 0 0]))).toArray (λg7=>?_)
 refine sA ?_
 refine sp rfl ?_
 refine Sy.callN kR 66 #[v] kF _ (λw' hw=>read_any w' v b (hv.at hw) hl) (λu M hM=>?_)
 obtain ⟨gr,sl,N0,hN0,rfl,rfl⟩:=hM
 refine sP (.agg #[.pointer none,ptr gr,.bool false])<|sM 126 #[.pointer none,ptr gr,.bool false] (λgc=>?_)
 refine Sy.permS (M:=CRS gc gr g6 38 ([]++(((Z32++([Value.int .u64 0]++([Value.int .u64 0]++(Z32++(Z32++([Value.slice none 0 0]++([Value.bool false]++([Value.int .i64 0]++[Value.slice none 0 0]))))))))++([Value.slice none 0 0]++([Value.slice none 0 0])))++[])) sl 0 ((g4,38,((Z32++([Value.int .u64 0]++([Value.int .u64 0]++(Z32++(Z32++([Value.slice none 0 0]++([Value.bool false]++([Value.int .i64 0]++[Value.slice none 0 0]))))))))++([Value.slice none 0 0]++([Value.slice none 0 0]))).toArray)::(g7,38,((Z32++([Value.int .u64 0]++([Value.int .u64 0]++(Z32++(Z32++([Value.slice none 0 0]++([Value.bool false]++([Value.int .i64 0]++[Value.slice none 0 0]))))))))++([Value.slice none 0 0]++([Value.slice none 0 0]))).toArray)::N0)) (Sy.flat_perm (ls:=[[(g4,38,((Z32++([Value.int .u64 0]++([Value.int .u64 0]++(Z32++(Z32++([Value.slice none 0 0]++([Value.bool false]++([Value.int .i64 0]++[Value.slice none 0 0]))))))))++([Value.slice none 0 0]++([Value.slice none 0 0]))).toArray)],[(g6,38,((Z32++([Value.int .u64 0]++([Value.int .u64 0]++(Z32++(Z32++([Value.slice none 0 0]++([Value.bool false]++([Value.int .i64 0]++[Value.slice none 0 0]))))))))++([Value.slice none 0 0]++([Value.slice none 0 0]))).toArray)],[(g7,38,((Z32++([Value.int .u64 0]++([Value.int .u64 0]++(Z32++(Z32++([Value.slice none 0 0]++([Value.bool false]++([Value.int .i64 0]++[Value.slice none 0 0]))))))))++([Value.slice none 0 0]++([Value.slice none 0 0]))).toArray)],[(gr,231,#[sl,.int .i64 0])],N0,[(gc,126,#[.pointer none,ptr gr,.bool false])]]) (ms:=[[(gc,126,#[.pointer none,ptr gr,.bool false])],[(g6,38,((Z32++([Value.int .u64 0]++([Value.int .u64 0]++(Z32++(Z32++([Value.slice none 0 0]++([Value.bool false]++([Value.int .i64 0]++[Value.slice none 0 0]))))))))++([Value.slice none 0 0]++([Value.slice none 0 0]))).toArray)],[(gr,231,#[sl,.int .i64 0])],[(g4,38,((Z32++([Value.int .u64 0]++([Value.int .u64 0]++(Z32++(Z32++([Value.slice none 0 0]++([Value.bool false]++([Value.int .i64 0]++[Value.slice none 0 0]))))))))++([Value.slice none 0 0]++([Value.slice none 0 0]))).toArray)],[(g7,38,((Z32++([Value.int .u64 0]++([Value.int .u64 0]++(Z32++(Z32++([Value.slice none 0 0]++([Value.bool false]++([Value.int .i64 0]++[Value.slice none 0 0]))))))))++([Value.slice none 0 0]++([Value.slice none 0 0]))).toArray)],N0]) [5,1,3,0,2,4] (by kernel_rfl) (by rfl) (by simp) (by simp)) ?_
 refine sp rfl ?_
 refine sA ?_
 refine sp rfl<|sp rfl ?_
 refine Sy.callT (λw' hw=>hp (Base.of w) gc gr g6 0 38 [] [] sl ⟨b,0⟩ ((g4,38,((Z32++([Value.int .u64 0]++([Value.int .u64 0]++(Z32++(Z32++([Value.slice none 0 0]++([Value.bool false]++([Value.int .i64 0]++[Value.slice none 0 0]))))))))++([Value.slice none 0 0]++([Value.slice none 0 0]))).toArray)::(g7,38,((Z32++([Value.int .u64 0]++([Value.int .u64 0]++(Z32++(Z32++([Value.slice none 0 0]++([Value.bool false]++([Value.int .i64 0]++[Value.slice none 0 0]))))))))++([Value.slice none 0 0]++([Value.slice none 0 0]))).toArray)::N0) N0 (λx h=>List.mem_cons_of_mem _ (List.mem_cons_of_mem _ h)) rfl (Nat.zero_le _) hl (hN0.byt.le rdB_base) w' hw) (λu M hM=>?_)
 obtain ⟨x,s',sl',cs,N,q1,q2,q3,q4,q5,q6,q7,rfl⟩:=hM
 rw [List.append_nil]
 obtain ⟨o1,o2⟩:=all_of q1
 obtain ⟨e,hE⟩:∃ e,e=if s'.e=0∧0<s'.rest.length then 113 else s'.e:=⟨_,rfl⟩
 have hEl:e≤200:=by rw [hE]; split <;> omega
 refine sG<|Sy.seq<|sC ?_
 obtain ⟨b1,hb1⟩:∃ z:Bool,z=decide (e≠0):=⟨_,rfl⟩
 refine sp rfl<|sp rfl<|sP (.pointer (some ⟨gc,1,none⟩))<|sS (ptr gr) (qc 0 1 rfl rfl Tryz.underlying124)<|sS (.int .i64 (e:Int)) (qg (λw' hw=>by rw [hE]; exact end_any (Base.of w) gr sl' s' N0 q5 q7 (List.mem_cons_of_mem _ (List.mem_cons_of_mem _ (List.mem_cons_self ..))) w' hw))<|sS (.bool b1) (Quiet.pure (exec_int .neq _ _ _ .i64 _ _ _ rfl rfl rfl (int_neq _ _ _ _ _ (by rw [hb1]; exact decide_eq_decide.2 (by omega))))) ?_
 refine sG ?_
 cases b1
 ·have l1:e=0:=Decidable.of_not_not (of_decide_eq_false hb1.symm)
  have l2:s'.e=0∧s'.rest=[]:=by
   by_cases h:s'.e=0∧0<s'.rest.length
   ·rw [if_pos h] at hE; omega
   ·rw [if_neg h] at hE
    exact ⟨by omega,List.eq_nil_of_length_eq_zero (by omega)⟩
  refine sU<|Sy.skip<|sB ?_
  refine sS (.agg cs.toArray) (Quiet.mid 1 g6 0 104 38 38 cs cs _ _ rfl kR rfl Tryz.underlying38 rfl kR (by rw [List.drop_zero,List.take_of_length_le (by omega)]) (by omega))<|sw 3 rfl cs.toArray (Writes.row 38 cs 104 _ _ rfl kR kR kR q2 (by kernel_rfl) q3)<|sP (.int .i64 0) ?_
  refine sG<|Sy.ret ?_
  exact Sy.retGM2 N rfl (.inl (Sy.Res.cell (ty':=38) g4 3 cs.toArray _ (by kernel_rfl) rfl Tryz.underlying38 rfl (by rw [List.size_toArray,q2]; kernel_rfl) rfl)) (.inl (show _=_ by kernel_rfl)) (λ_ h=>h.less (List.sublist_append_right [(gc,126,#[.pointer none,ptr gr,.bool false]),(g6,38,cs.toArray),(gr,231,#[sl',.int .i64 (s'.e:Int)]),(g4,38,cs.toArray),(g7,38,((Z32++([Value.int .u64 0]++([Value.int .u64 0]++(Z32++(Z32++([Value.slice none 0 0]++([Value.bool false]++([Value.int .i64 0]++[Value.slice none 0 0]))))))))++([Value.slice none 0 0]++([Value.slice none 0 0]))).toArray)] (N0++N) |> λh1=>(List.sublist_append_right N0 N).trans h1)) (.inl ⟨x,cs,o1 l2.1 l2.2,rfl,q2,q4⟩)
 ·have l1:e≠0:=of_decide_eq_true hb1.symm
  have l2:s'.e≠0∨s'.rest≠[]:=by
   by_cases h:s'.e=0∧0<s'.rest.length
   ·exact .inr (λe=>by rw [e] at h; exact absurd h.2 (by decide))
   ·rw [if_neg h] at hE; exact .inl (by omega)
  refine sT<|sC ?_
  refine sS (.agg ((Z32++([Value.int .u64 0]++([Value.int .u64 0]++(Z32++(Z32++([Value.slice none 0 0]++([Value.bool false]++([Value.int .i64 0]++[Value.slice none 0 0]))))))))++([Value.slice none 0 0]++([Value.slice none 0 0]))).toArray) (qk 4 0 104 rfl rfl Tryz.underlying38)<|sw 3 rfl ((Z32++([Value.int .u64 0]++([Value.int .u64 0]++(Z32++(Z32++([Value.slice none 0 0]++([Value.bool false]++([Value.int .i64 0]++[Value.slice none 0 0]))))))))++([Value.slice none 0 0]++([Value.slice none 0 0]))).toArray (wA rfl)<|sP (.int .i64 120) ?_
  refine sG<|Sy.ret<|Sy.then_ret ?_
  exact Sy.retGM2 [] rfl (.inl (Sy.Res.cell (ty':=38) g4 3 ((Z32++([Value.int .u64 0]++([Value.int .u64 0]++(Z32++(Z32++([Value.slice none 0 0]++([Value.bool false]++([Value.int .i64 0]++[Value.slice none 0 0]))))))))++([Value.slice none 0 0]++([Value.slice none 0 0]))).toArray _ (by kernel_rfl) rfl Tryz.underlying38 rfl (by kernel_rfl) rfl)) (.inl (show _=_ by kernel_rfl)) (λ_ h=>h.none) (.inr ⟨o2 l2,rfl,rfl⟩)
theorem rdx_blk {α:Type} {rep:Rdr→List Value→α→Prop} {p:Ps α} (hm:Mono rep) (hone:∀ {C:Rdr} {cs:List Value} {x:α},rep C cs x→∀ u∈cs,u.oneCell'=true) (hp:GetC 35 104 ((Z32++([Value.int .u64 0]++([Value.int .u64 0]++(Z32++(Z32++([Value.slice none 0 0]++([Value.bool false]++([Value.int .i64 0]++[Value.slice none 0 0]))))))))++([Value.slice none 0 0]++([Value.slice none 0 0]))) rep p) (w:World) (v:Value) (b:Byt) (hv:BytR (rdW w) v b) (hl:b.length≤70368744177664) :
  Calls Tryz.prog 13 #[v] w (GetsN w (RdE 104 ((Z32++([Value.int .u64 0]++([Value.int .u64 0]++(Z32++(Z32++([Value.slice none 0 0]++([Value.bool false]++([Value.int .i64 0]++[Value.slice none 0 0]))))))))++([Value.slice none 0 0]++([Value.slice none 0 0]))) rep (allP p b))):=by
 refine Sy.enter (args:=[v]) Tryz.func13 rfl kL ?_
 refine sC ?_
 refine sM 38 ((Z32++([Value.int .u64 0]++([Value.int .u64 0]++(Z32++(Z32++([Value.slice none 0 0]++([Value.bool false]++([Value.int .i64 0]++[Value.slice none 0 0]))))))))++([Value.slice none 0 0]++([Value.slice none 0 0]))).toArray (λg2=>?_)
 refine sP (.int .i64 0) ?_
 refine sA ?_
 refine sp rfl ?_
 refine Sy.callN kR 39 #[v,.func (.func 35) #[] #[]] kF _ (λw' hw=>read_blk (rep:=rep) (p:=p) hm hp w' v b (hv.at hw) hl) (λu M hM=>?_)
 rcases hM with ⟨x,cs,o1,rfl,q2,q4⟩ | ⟨o1,rfl,rfl⟩
 ·have q3:∀ u∈cs,u.oneCell'=true:=hone q4
  refine sp rfl<|sp rfl<|sw 0 rfl cs.toArray (Writes.row 38 cs 104 _ _ rfl kR kR kR q2 (by kernel_rfl) q3)<|sp rfl ?_
  refine sG<|Sy.ret ?_
  exact Sy.retGM2 M rfl (.inl (Sy.Res.cell (ty':=38) g2 0 cs.toArray _ (by kernel_rfl) rfl Tryz.underlying38 rfl (by rw [List.size_toArray,q2]; kernel_rfl) rfl)) (.inl (show _=_ by kernel_rfl)) (λ_ h=>h.less (List.sublist_cons_self _ _)) (.inl ⟨x,cs,o1,rfl,q2,q4⟩)
 ·refine sp rfl<|sp rfl<|sw 0 rfl ((Z32++([Value.int .u64 0]++([Value.int .u64 0]++(Z32++(Z32++([Value.slice none 0 0]++([Value.bool false]++([Value.int .i64 0]++[Value.slice none 0 0]))))))))++([Value.slice none 0 0]++([Value.slice none 0 0]))).toArray (wA rfl)<|sp rfl ?_
  refine sG<|Sy.ret ?_
  exact Sy.retGM2 [] rfl (.inl (Sy.Res.cell (ty':=38) g2 0 ((Z32++([Value.int .u64 0]++([Value.int .u64 0]++(Z32++(Z32++([Value.slice none 0 0]++([Value.bool false]++([Value.int .i64 0]++[Value.slice none 0 0]))))))))++([Value.slice none 0 0]++([Value.slice none 0 0]))).toArray _ (by kernel_rfl) rfl Tryz.underlying38 rfl (by kernel_rfl) rfl)) (.inl (show _=_ by kernel_rfl)) (λ_ h=>h.none) (.inr ⟨o1,rfl,rfl⟩)
end Wr
end
section
namespace Wr
open Go.RowKit Sy
set_option maxRecDepth 100000
set_option maxHeartbeats 4000000
def szPU (o:MOu):Nat:=o.range.length+o.surject.length+o.note.length+o.script.length
def szIS (i:MIs):Nat:=i.range.length
def szPG (p:MPg):Nat:=p.tx.length+(p.path.length+p.script.length)
def szIN (i:MIn):Nat:=szIS i.issue+(szPG i.peg+(i.wit.length+(i.wit.map λx=>x.length).sum))
def szTR (t:MTr):Nat:=(t.ins.length+(t.ins.map szIN).sum)+(t.outs.length+(t.outs.map szPU).sum)
def szBL (b:MBl):Nat:=(b.header.reward.length+b.header.next.keys.length)+(b.sigs.length+(b.txs.length+(b.txs.map szTR).sum))
theorem sum_0 {α:Type} (l:List α):(l.map λ_=>0).sum=0:=by induction l with | nil=>rfl | cons a l ih=>rw [List.map_cons,List.sum_cons,ih]
theorem opn_sc:Opn 76 4 repSC (λ_=>0):=⟨λ{H enc W fuel cs x} hl hf=>by
 match cs,hl with
 | [c0,c1,c2,c3],_ =>
  obtain ⟨n,h1,h2⟩:=Cu.words_trod Tryz.underlying76 Tryz.underlying22 (by kernel_rfl) hf
  refine ⟨n,⟨h2,h1⟩,λu hu=>?_,bulk_pos _⟩
  rw [h2] at hu
  simp only [Cu.fws,List.mem_cons,List.not_mem_nil,or_false] at hu
  rcases hu with rfl | rfl | rfl | rfl <;> rfl⟩
theorem opn_u32:Opn 67 1 repW (λ_=>0):=opn_w Tryz.underlying67
theorem opn_ots:Opn 88 58 repOU szPU:=opn_out.as λC cs o h=>⟨o,h,Nat.le_refl _⟩
theorem opn_opt:Opn 69 33 repOP (λ_=>0):=(opn_s2 Tryz.underlying69 (by kernel_rfl) (by kernel_rfl) (by kernel_rfl) (by kernel_rfl) opn_dg opn_u32).as λC cs (a,b) ⟨a0,a1,e,⟨e0,h1⟩,⟨e1,h2⟩⟩=>by
 dsimp only at e0 e1 h1 h2
 subst e0 e1 e
 exact ⟨(a,b),⟨rfl,h1,h2⟩,Nat.zero_le _⟩
theorem opn_iss:Opn 78 50 repIS szIS:=(opn_s6 Tryz.underlying78 (by kernel_rfl) (by kernel_rfl) (by kernel_rfl) (by kernel_rfl) (by kernel_rfl) (by kernel_rfl) (by kernel_rfl) (by kernel_rfl) (by kernel_rfl) (by kernel_rfl) (by kernel_rfl) (by kernel_rfl) (opn_i Tryz.underlying3) opn_amt opn_raw opn_u64 opn_dg opn_sc).as λC cs (k,a,r,t,n,s) ⟨a0,a1,a2,a3,a4,a5,ec,e0,⟨e1,h1⟩,⟨v2,e2,h2⟩,⟨e3,h3⟩,⟨e4,h4⟩,⟨e5,h5⟩⟩=>by
 obtain rfl:a0=[.int .i64 k]:=e0
 dsimp only at e1 e2 e3 e4 e5 h1 h2 h3 h4 h5
 subst e1 e2 e3 e4 e5 ec
 exact ⟨⟨k,a,r,t,n,s⟩,⟨v2,rfl,h1,h2,h3,h4,h5⟩,by show r.length≤0+0+r.length+0+0+0; omega⟩
theorem opn_peg:Opn 81 37 repPG szPG:=(opn_s6 Tryz.underlying81 (by kernel_rfl) (by kernel_rfl) (by kernel_rfl) (by kernel_rfl) (by kernel_rfl) (by kernel_rfl) (by kernel_rfl) (by kernel_rfl) (by kernel_rfl) (by kernel_rfl) (by kernel_rfl) (by kernel_rfl) opn_dg opn_raw opn_u32 opn_u32 (opn_l Tryz.underlying79 (by kernel_rfl) (by decide) opn_dg) opn_raw).as λC cs (h,t,p,m,l,s) ⟨a0,a1,a2,a3,a4,a5,ec,⟨e0,h0⟩,⟨v1,e1,h1⟩,⟨e2,h2⟩,⟨e3,h3⟩,⟨v4,e4,h4⟩,⟨v5,e5,h5⟩⟩=>by
 dsimp only at e0 e1 e2 e3 e4 e5 h0 h1 h2 h3 h4 h5
 subst e0 e1 e2 e3 e4 e5 ec
 exact ⟨⟨h,t,p,m,l,s⟩,⟨v1,v4,v5,rfl,h0,h1,h2,h3,h4,h5⟩,by show t.length+(l.length+s.length)≤0+t.length+0+0+(l.length+(l.map λ_=>0).sum)+s.length; rw [sum_0]; omega⟩
theorem opn_inp:Opn 83 122 repIN szIN:=(opn_s5 Tryz.underlying83 (by kernel_rfl) (by kernel_rfl) (by kernel_rfl) (by kernel_rfl) (by kernel_rfl) (by kernel_rfl) (by kernel_rfl) (by kernel_rfl) (by kernel_rfl) (by kernel_rfl) (opn_i Tryz.underlying3) opn_opt opn_iss opn_peg (opn_l Tryz.underlying66 (by kernel_rfl) (by decide) opn_raw)).as λC cs (k,o,i,g,w) ⟨a0,a1,a2,a3,a4,ec,e0,⟨e1,h1,h1'⟩,h2,h3,⟨v4,e4,h4⟩⟩=>by
 obtain rfl:a0=[.int .i64 k]:=e0
 dsimp only at e1 e4 h1 h1' h2 h3 h4
 subst e1 e4 ec
 exact ⟨⟨k,o.1,o.2,i,g,w⟩,⟨a2,a3,v4,rfl,h1,h1',h2,h3,h4⟩,by show szIS i+(szPG g+(w.length+(w.map λx=>x.length).sum))≤0+0+szIS i+szPG g+(w.length+(w.map λx=>x.length).sum); omega⟩
theorem opn_txx:Opn 26 3 repTR szTR:=(opn_s3 Tryz.underlying26 (by kernel_rfl) (by kernel_rfl) (by kernel_rfl) (by kernel_rfl) (by kernel_rfl) (by kernel_rfl) opn_u64 (opn_l Tryz.underlying23 (by kernel_rfl) (by decide) opn_inp) (opn_l Tryz.underlying24 (by kernel_rfl) (by decide) opn_ots)).as λC cs (a,i,o) ⟨a0,a1,a2,ec,⟨e0,h0⟩,⟨v1,e1,h1⟩,⟨v2,e2,h2⟩⟩=>by
 dsimp only at e0 e1 e2 h0 h1 h2
 subst e0 e1 e2 ec
 exact ⟨⟨a,i,o⟩,⟨v1,v2,rfl,h0,h1,h2⟩,by show (i.length+(i.map szIN).sum)+(o.length+(o.map szPU).sum)≤0+(i.length+(i.map szIN).sum)+(o.length+(o.map szPU).sum); omega⟩
theorem opn_s64:Opn 150 64 (repN 64) (λ_=>0):=opn_n Tryz.underlying150 Tryz.underlying5 (by kernel_rfl) (by kernel_rfl)
theorem opn_sgd:Opn 152 65 repSG (λ_=>0):=(opn_s2 Tryz.underlying152 (by kernel_rfl) (by kernel_rfl) (by kernel_rfl) (by kernel_rfl) (opn_i Tryz.underlying3) opn_s64).as λC cs (k,s) ⟨a0,a1,e,e0,⟨e1,h1⟩⟩=>by
 obtain rfl:a0=[.int .i64 k]:=e0
 dsimp only at e1 h1
 subst e1 e
 exact ⟨⟨k,s⟩,⟨rfl,h1⟩,Nat.zero_le _⟩
theorem opn_blk:Opn 38 104 repBL szBL:=(opn_s3 Tryz.underlying38 (by kernel_rfl) (by kernel_rfl) (by kernel_rfl) (by kernel_rfl) (by kernel_rfl) (by kernel_rfl) opn_hdr (opn_l Tryz.underlying35 (by kernel_rfl) (by decide) opn_sgd) (opn_l Tryz.underlying36 (by kernel_rfl) (by decide) opn_txx)).as λC cs (h,s,t) ⟨a0,a1,a2,ec,h0,⟨v1,e1,h1⟩,⟨v2,e2,h2⟩⟩=>by
 dsimp only at e1 e2 h0 h1 h2
 subst e1 e2 ec
 exact ⟨⟨h,s,t⟩,⟨a0,v1,v2,rfl,h0,h1,h2⟩,by show (h.reward.length+h.next.keys.length)+(s.length+(t.length+(t.map szTR).sum))≤(h.reward.length+h.next.keys.length)+(s.length+(s.map λ_=>0).sum)+(t.length+(t.map szTR).sum); rw [sum_0]; omega⟩
end Wr
end
section
namespace Wr
open Go.RowKit Sy
set_option maxRecDepth 100000
set_option maxHeartbeats 4000000
theorem sum_32' (l:List Byt):(l.map λ_=>32).sum=32*l.length:=by
 induction l with
 | nil=>rfl
 | cons o l ih=>rw [List.map_cons,List.sum_cons,ih,List.length_cons]; omega
end Wr
end
section
namespace Wr
open Go.RowKit Sy
set_option maxRecDepth 100000
set_option maxHeartbeats 4000000
theorem bindI {α β:Type} {p:Ps α} {q:α→Ps β} {l r:Byt} {x:β} (h:bindP p q l=some (x,r)):∃ y r1,p l=some (y,r1)∧q y r1=some (x,r):=by
  cases hp:p l with
  | none=>rw [bind_none hp] at h; cases h
  | some u=>obtain ⟨y,r1⟩:=u; rw [bind_some hp] at h; exact ⟨y,r1,rfl,h⟩
theorem mustI {b:Bool} {l r:Byt} {u:Unit} (h:mustP b l=some (u,r)):b=true∧l=r:=by
  unfold mustP at h
  cases b
  · cases h
  · cases h; exact ⟨rfl,rfl⟩
theorem mustF {α:Type} {b:Bool} (hb:b=true) (q:Unit→Ps α) (l:Byt):bindP (mustP b) q l=q () l:=by subst hb; rfl
structure Fits {α:Type} (p:Ps α) (ok:α→Bool) (enc:α→Byt) (dom:α→Prop):Prop where
  inv:∀ {l r:Byt} {x:α},p l=some (x,r)→(ok x=true∧dom x)∧l=enc x++r
  fwd:∀ {x:α} (r:Byt),ok x=true→dom x→p (enc x++r)=some (x,r)
theorem Fits.back {α:Type} {p:Ps α} {ok:α→Bool} {enc:α→Byt} {dom:α→Prop} (h:Fits p ok enc dom) {x:α} (h1:ok x=true) (h2:dom x):allP p (enc x)=some x:=by
  unfold allP
  have e:=h.fwd [] h1 h2
  rw [List.append_nil] at e
  rw [e]
theorem fitTake (n:Nat):Fits (takeP n) (λ_=>true) (λx=>x) (λx=>x.length=n):=by
  refine ⟨λh=>⟨⟨rfl,(take_len h).1⟩,(take_len h).2⟩,λ{x} r _ hx=>?_⟩
  show takeP n (x++r)=some (x,r)
  unfold takeP
  subst hx
  rw [if_pos (by rw [List.length_append]; omega),List.take_left,List.drop_left]
theorem fitNum (k : Nat) : Fits (numP k) (fun _ => true) (nb k) (fun n => n < 256 ^ k) := by
  refine ⟨λ{l r n} h=>?_,λ{n} r _ hn=>?_⟩
  · have hlt:=num_lt h
    obtain ⟨b,r1,h1,h2⟩:=bindI h
    cases h2
    obtain ⟨e1,rfl⟩:=take_len h1
    refine ⟨⟨rfl,hlt⟩,?_⟩
    rw [← e1,nb_said]
  · unfold numP
    rw [bind_some ((fitTake k).fwd r rfl (nb_len k n)),said_nb k n hn]
    rfl
theorem fitOct : Fits octP okO (fun z => [octB z]) (fun _ => True) := by
  refine ⟨λ{l r z} h=>?_,λ{z} r hz _=>?_⟩
  · obtain ⟨n, r1, h1, h2⟩ := bindI h
    cases h2
    obtain ⟨⟨_,h3⟩,rfl⟩:=(fitNum 1).inv h1
    have h3:n<256:=h3
    refine ⟨⟨?_,trivial⟩,?_⟩
    · unfold okO
      rw [decide_eq_true (show (0:Int)≤n by omega),decide_eq_true (show (n:Int)≤255 by omega)]; rfl
    · have e:((n:Int)%256).toNat=n:=by omega
      unfold octB
      rw [e]
      show UInt8.ofNat (n / 256 ^ 0)::[]++r=_
      rw [Nat.pow_zero,Nat.div_one]
  · unfold okO at hz
    rw [Bool.and_eq_true,decide_eq_true_eq,decide_eq_true_eq] at hz
    have e:[octB z]=nb 1 z.toNat:=by
      unfold octB
      rw [show (z%256).toNat=z.toNat by omega]
      show _=[UInt8.ofNat (z.toNat / 256 ^ 0)]
      rw [Nat.pow_zero,Nat.div_one]
    unfold octP
    rw [e,bind_some ((fitNum 1).fwd r rfl (show z.toNat<256 by omega))]
    show some (((z.toNat:Nat):Int),r)=some (z,r)
    rw [Int.toNat_of_nonneg hz.1]
theorem fitVar (most : Nat) : Fits (varP most) (fun n => decide (n ≤ most)) varB (fun n => n < 18446744073709551616) := by
  have one:∀ (c:Nat) (r:Byt),c<256→numP 1 (UInt8.ofNat c::r)=some (c,r):=λc r hc=>by
    have e:UInt8.ofNat c::r=nb 1 c++r:=by show _=UInt8.ofNat (c / 256 ^ 0)::([]++r); rw [Nat.pow_zero,Nat.div_one,List.nil_append]
    rw [e]; exact (fitNum 1).fwd r rfl hc
  refine ⟨λ{l r n} h=>?_,λ{n} r hn hd=>?_⟩
  · obtain ⟨m, r1, h1, h2⟩ := bindI h
    obtain ⟨_,r2,h3,h4⟩:=bindI h2
    obtain ⟨hm,rfl⟩:=mustI h3
    cases h4
    refine ⟨⟨hm,?_⟩,?_⟩ <;> obtain ⟨c,r3,h5,h6⟩:=bindI h1 <;> obtain ⟨⟨_,h7⟩,rfl⟩:=(fitNum 1).inv h5 <;> have h7:c<256:=h7
    all_goals by_cases hc:c<253
    · rw [if_pos hc] at h6; cases h6; omega
    · rw [if_neg hc] at h6
      obtain ⟨k,r4,h8,h9⟩:=bindI h6
      obtain ⟨_,r5,h10,h11⟩:=bindI h9
      obtain ⟨hk,rfl⟩:=mustI h10
      cases h11
      have h12:=num_lt h8
      have hw : wide c ≤ 8 := by unfold wide; repeat' split
                                 all_goals omega
      exact Nat.lt_of_lt_of_le h12 (Nat.pow_le_pow_right (by decide) hw)
    · rw [if_pos hc] at h6; cases h6
      unfold varB
      rw [if_pos hc]
      show UInt8.ofNat (_ / 256 ^ 0)::[]++_=_
      rw [Nat.pow_zero,Nat.div_one]
    · rw [if_neg hc] at h6
      obtain ⟨k,r4,h8,h9⟩:=bindI h6
      obtain ⟨_,r5,h10,h11⟩:=bindI h9
      obtain ⟨hk,rfl⟩:=mustI h10
      cases h11
      obtain ⟨⟨_,h12⟩,rfl⟩:=(fitNum (wide c)).inv h8
      have hk:=of_decide_eq_true hk
      have h13:c=253∨c=254∨c=255:=by omega
      have e0:nb 1 c=[UInt8.ofNat c]:=by show UInt8.ofNat (c / 256 ^ 0)::[]=_; rw [Nat.pow_zero,Nat.div_one]
      rw [e0]
      unfold varB
      rcases h13 with rfl | rfl | rfl
      · have h12:_<65536:=h12
        have hk:253≤_:=hk
        rw [if_neg (by omega),if_pos h12]; rfl
      · have h12:_<4294967296:=h12
        have hk:65536≤_:=hk
        rw [if_neg (by omega),if_neg (by omega),if_pos h12]; rfl
      · have hk:4294967296≤_:=hk
        rw [if_neg (by omega),if_neg (by omega),if_neg (by omega)]; rfl
  · have lng : ∀ (c : Nat), c < 256 → 253 ≤ c → n < 256 ^ wide c → least c ≤ n → bindP (bindP (numP 1) fun c => if c < 253 then retP c else longP c) (fun n => bindP (mustP (decide (n ≤ most))) fun _ => retP n) (UInt8.ofNat c :: (nb (wide c) n ++ r)) = some (n, r) := fun c h1 h2 h3 h4 => by
      have e:bindP (numP 1) (λc=>if c<253 then retP c else longP c) (UInt8.ofNat c::(nb (wide c) n++r))=some (n,r):=by
        rw [bind_some (one c _ h1),if_neg (by omega)]
        unfold longP
        rw [bind_some ((fitNum (wide c)).fwd r rfl h3),mustF (decide_eq_true h4)]
        rfl
      rw [bind_some e,mustF hn]
      rfl
    unfold varP varB
    by_cases a1:n<253
    · rw [if_pos a1]
      have e:bindP (numP 1) (λc=>if c<253 then retP c else longP c) ([UInt8.ofNat n]++r)=some (n,r):=by
        show bindP _ _ (UInt8.ofNat n::r)=_
        rw [bind_some (one n r (by omega)),if_pos a1]
        rfl
      rw [bind_some e,mustF hn]
      rfl
    · rw [if_neg a1]
      by_cases a2:n<65536
      · rw [if_pos a2]; exact lng 253 (by decide) (by decide) a2 (show 253≤n by omega)
      · rw [if_neg a2]
        by_cases a3:n<4294967296
        · rw [if_pos a3]; exact lng 254 (by decide) (by decide) a3 (show 65536≤n by omega)
        · rw [if_neg a3]; exact lng 255 (by decide) (by decide) hd (show 4294967296≤n by omega)
theorem fitText (most : Nat) : Fits (textP most) (fun x => decide (x.length ≤ most)) encT (fun x => x.length < 18446744073709551616) := by
  refine ⟨λ{l r x} h=>?_,λ{x} r hx hd=>?_⟩
  · obtain ⟨n,r1,h1,h2⟩:=bindI h
    obtain ⟨⟨h3,h4⟩,rfl⟩:=(fitVar most).inv h1
    obtain ⟨⟨_,h5⟩,rfl⟩:=(fitTake n).inv h2
    subst h5
    exact ⟨⟨h3,h4⟩,by unfold encT; rw [List.append_assoc]⟩
  · unfold encT textP
    rw [List.append_assoc,bind_some ((fitVar most).fwd _ hx hd),(fitTake x.length).fwd r rfl rfl]
theorem fitRep {α : Type} {p : Ps α} {ok : α → Bool} {enc : α → Byt} {dom : α → Prop} (hp : Fits p ok enc dom) : ∀ (n : Nat), Fits (repP p n) (fun l => l.all ok) (fun l => l.flatMap enc) (fun l => l.length = n ∧ ∀ x ∈ l, dom x)
  | 0 => ⟨fun {l r x} h => by cases h; exact ⟨⟨rfl, rfl, fun _ hx => by cases hx⟩, rfl⟩, fun {x} r _ hx => by
      obtain rfl:x=[]:=List.length_eq_zero_iff.1 hx.1
      rfl⟩
  | n + 1 => by
    have ih:=fitRep hp n
    refine ⟨λ{l r x} h=>?_,λ{x} r hx hd=>?_⟩
    · obtain ⟨y, r1, h1, h2⟩ := bindI (p := p) h
      obtain ⟨ys,r2,h3,h4⟩:=bindI (p:=repP p n) h2
      cases h4
      obtain ⟨⟨a1,a2⟩,rfl⟩:=hp.inv h1
      obtain ⟨⟨b1,b2,b3⟩,rfl⟩:=ih.inv h3
      refine ⟨⟨?_,by rw [List.length_cons,b2],λz hz=>?_⟩,by rw [List.flatMap_cons,List.append_assoc]⟩
      · rw [List.all_cons,a1,b1]; rfl
      · rcases List.mem_cons.1 hz with rfl | hz
        · exact a2
        · exact b3 z hz
    · cases x with
      | nil=>cases hd.1
      | cons y ys =>
        rw [List.all_cons,Bool.and_eq_true] at hx
        show bindP p (λx=>bindP (repP p n) λl=>retP (x::l)) _=_
        rw [List.flatMap_cons,List.append_assoc,bind_some (hp.fwd _ hx.1 (hd.2 y (List.mem_cons_self ..))),bind_some (ih.fwd r hx.2 ⟨by have:=hd.1; rw [List.length_cons] at this; omega,λz hz=>hd.2 z (List.mem_cons_of_mem _ hz)⟩)]
        rfl
theorem fitList {α : Type} {p : Ps α} {ok : α → Bool} {enc : α → Byt} {dom : α → Prop} (hp : Fits p ok enc dom) (most : Nat) : Fits (listP most p) (fun l => decide (l.length ≤ most) && l.all ok) (encL enc) (fun l => l.length < 18446744073709551616 ∧ ∀ x ∈ l, dom x) := by
  refine ⟨λ{l r x} h=>?_,λ{x} r hx hd=>?_⟩
  · obtain ⟨n,r1,h1,h2⟩:=bindI h
    obtain ⟨⟨h3,h4⟩,rfl⟩:=(fitVar most).inv h1
    obtain ⟨⟨h5,h6,h7⟩,rfl⟩:=(fitRep hp n).inv h2
    subst h6
    exact ⟨⟨by rw [h3,h5]; rfl,h4,h7⟩,by unfold encL; rw [List.append_assoc]⟩
  · rw [Bool.and_eq_true] at hx
    unfold encL listP
    rw [List.append_assoc,bind_some ((fitVar most).fwd _ hx.1 hd.1),(fitRep hp x.length).fwd r hx.2 ⟨rfl,hd.2⟩]
theorem fitTru : Fits truP (fun _ => true) (fun b => [trB b]) (fun _ => True) := by
  refine ⟨λ{l r x} h=>?_,λ{x} r _ _=>?_⟩
  · obtain ⟨z,r1,h1,h2⟩:=bindI h
    obtain ⟨_,r2,h3,h4⟩:=bindI h2
    obtain ⟨hz,rfl⟩:=mustI h3
    cases h4
    obtain ⟨⟨ho,_⟩,rfl⟩:=fitOct.inv h1
    refine ⟨⟨rfl,trivial⟩,?_⟩
    have hz:=of_decide_eq_true hz
    unfold okO at ho
    rw [Bool.and_eq_true,decide_eq_true_eq,decide_eq_true_eq] at ho
    have:z=0∨z=1:=by omega
    rcases this with rfl | rfl <;> rfl
  · unfold truP trB
    rw [bind_some (fitOct.fwd r (by cases x <;> rfl) trivial)]
    cases x <;> rfl
theorem dec_mPt {P : Cu.Pt} (h : Ec.On P) : Cu.dec (mPt P).x (mPt P).y (mPt P).i = P := by
  cases P with
  | none=>rfl
  | some p =>
    obtain ⟨x,y⟩:=p
    have hon:y.val*y.val%pM=(x.val*x.val%pM*x.val%pM+7)%pM:=congrArg Fin.val h
    unfold Cu.dec
    exact dif_pos (⟨rfl,x.isLt,y.isLt,hon⟩:false=false∧x.val<pM∧y.val<pM∧_)
theorem ok_dec {p : MPt} (h : okPT p = true) : ∃ P, p = mPt P ∧ Ec.On P := by
  obtain ⟨x,y,i⟩:=p
  unfold okPT at h
  rw [Bool.and_eq_true] at h
  obtain ⟨h1,h2⟩:=h
  cases i with
  | true=>cases h2
  | false =>
    unfold Cu.rightB at h1
    rw [if_neg (show ¬ (false=true) by decide)] at h1
    simp only [Bool.and_eq_true,decide_eq_true_eq] at h1
    obtain ⟨⟨hx,hy⟩,he⟩:=h1
    exact ⟨some (⟨x,hx⟩,⟨y,hy⟩),rfl,Fin.ext he⟩
theorem fitPt : Fits ptP okPT encPT (fun p => p.x < Cu.K4 ∧ p.y < Cu.K4) := by
  refine ⟨λ{l r x} h=>?_,λ{x} r hx hd=>?_⟩
  · obtain ⟨b, r1, h1, h2⟩ := bindI h
    obtain ⟨_,r2,h3,h4⟩:=bindI h2
    obtain ⟨hz,rfl⟩:=mustI h3
    cases h4
    obtain ⟨⟨_,h5⟩,rfl⟩:=(fitTake 33).inv h1
    refine ⟨⟨by rw [okPT_dec]; exact hz,mPt_lt _⟩,?_⟩
    congr 1
    have hb : Cu.decOk b = true := by
      cases hd:Cu.decOk b with
      | true=>rfl
      | false =>
        have e:Cu.decP b=none:=by unfold Cu.decP; rw [if_neg (by rw [hd]; decide)]
        rw [e] at hz
        cases hz
    obtain ⟨_,h6,_⟩:=Cu.decP_ok hb
    unfold encPT
    rw [dec_mPt (Cu.decP_on b),h6]
  · obtain ⟨P, hP, hon⟩ := ok_dec hx
    have e:Cu.dec x.x x.y x.i=P:=by rw [hP]; exact dec_mPt hon
    obtain ⟨d1,d2⟩:=Cu.dec_enc hon
    unfold ptP encPT
    rw [e,bind_some ((fitTake 33).fwd r rfl (Cu.encS_length P)),d2, ← hP,mustF (by
      have h:=hx
      unfold okPT at h
      rw [Bool.and_eq_true] at h
      exact h.2)]
    rfl
end Wr
end
end Go.Proofs.YtgggdbjakcpanaaGreatDoor
