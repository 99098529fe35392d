/-
  Texts of ours, put together: SymP, RingF, RingN, SymM, EnA, EnB, EnC, ManA, RingG, RingO, RingR, RingS, RingT, RingU, SymN, RingV, RingP, RingQ, RingSignsL, PLift7, RingW, RingY, ScInv, ScRefPow, RingX, RingZ.
-/
import Derived.Test.YtbjmjcpdonochaaGreatDoorBK6
set_option linter.unusedVariables false
set_option linter.unusedSimpArgs false
set_option maxRecDepth 100000
set_option maxHeartbeats 8000000
namespace Go.Proofs.YtbjmjcpdonochaaGreatDoor
section
namespace Sy
open Go.RowKit
section
variable {r:Nat→Slc} {n i:Nat} {pre A B C D M N T:AD} {b b':Nat×TypeId×Array Value} {v:Value} {w0:Base} {w:World}
theorem end_perm:((pre++(A++B))++D).Perm (pre++(A++(B++D))):=by
 rw [List.append_assoc,List.append_assoc]
theorem end_perm3:((pre++(A++(B++C)))++D).Perm (pre++(A++(B++(C++D)))):=by
 rw [List.append_assoc,List.append_assoc,List.append_assoc]
theorem out1 (r:Nat→Slc) (hi:i<n) (hb:(r i).bl=[b]):(pre++(BJ r n++T)).Perm ((pre++[b])++(Dk r n i++T)):=by
 have h:=out_perm (pre:=pre) (T:=T) r hi
 rw [hb] at h
 rwa [List.append_assoc]
theorem St.back1 (hi:i<n) (hw:St w0 w ((M++[b'])++(Dk r n i++T))):St w0 w (M++(BJ (Ct r i ⟨v,[b']⟩) n++[])):=by
 have h1:((M++[b'])++(Dk r n i++[])).Sublist ((M++[b'])++(Dk r n i++T)):=(List.Sublist.refl _).append ((List.Sublist.refl _).append (List.nil_sublist _))
 refine (hw.less h1).perm ?_
 rw [List.append_assoc]
 exact in_perm (x:=⟨v,[b']⟩) hi
theorem KT {x:Slc} (h:x.v=(r i).v):Ai (Ct r i x) n=Ai r n:=by
 unfold Ai
 refine congrArg List.toArray (Bg λj _=>?_)
 by_cases hj:j=i
 ·rw [hj,D5,h]
 ·rw [Fo hj]
theorem RowsAre.upd {e:TypeId} {sz:Nat} {f f':Nat→Nat→List Value} {c:Nat→Nat} {x:Slc} (h:RowsAre r e sz f c) (hx:x.Is e sz ((List.range (c i)).map (f' i))) (hf:∀ j,j≠i→f' j=f j):RowsAre (Ct r i x) e sz f' c:=λj=>by
 by_cases hj:j=i
 ·subst hj; rw [D5]; exact hx
 ·rw [Fo hj,hf j hj]; exact h j
theorem St.pick4 (is:List Nat) (hn:is.Nodup) (hm:is.map (λi=>pre[i]?)=(M++N).map some) (hw:St w0 w (pre++(A++(B++(C++D))))):St w0 w (M++(A++(B++(C++(D++N))))):=by
 have h2:=St.pick2 (a:=A++B) (T:=C++D) is hn hm (by rwa [List.append_assoc])
 rwa [List.append_assoc,List.append_assoc C] at h2
end
theorem Slc.Is.open {r:Slc} {e:TypeId} {sz m:Nat} {f:Nat→List Value} (h:r.Is e sz ((List.range m).map f)) (hm:0<m):∃ g cap sp,r.v=.slice (pA g) m cap∧r.bl=[(g,e,(AQ f m++sp).toArray)]∧sp.length+m*sz=cap*sz∧m≤cap∧cap≤maxLen:=by
 rcases h.row with ⟨h0,_⟩ | ⟨g,cap,sp,rfl,h1,h2,h3⟩
 ·have:=congrArg List.length h0
  simp at this
  omega
 ·rw [List.length_map,List.length_range] at h1 h2
  exact ⟨g,cap,sp,by rw [List.length_map,List.length_range],by rw [show ((List.range m).map f).flatten=AQ f m from (List.flatMap_def ..).symm],h1,h2,h3⟩
theorem Slc.Is.close {e:TypeId} {sz m g cap:Nat} {f:Nat→List Value} {sp:List Value} (hf:∀ k,(f k).length=sz) (h1:∀ k, ∀ u∈f k,u.oneCell'=true) (hs:sp.length+m*sz=cap*sz) (hm:m≤cap) (hc:cap≤maxLen):Slc.Is ⟨.slice (pA g) m cap,[(g,e,(AQ f m++sp).toArray)]⟩ e sz ((List.range m).map f) :=
 ⟨λx hx=>by obtain ⟨k,_,rfl⟩:=List.mem_map.1 hx; exact hf k,λx hx=>by obtain ⟨k,_,rfl⟩:=List.mem_map.1 hx; exact h1 k,.inr ⟨g,cap,sp,by rw [List.length_map,List.length_range,show ((List.range m).map f).flatten=AQ f m from (List.flatMap_def ..).symm],by rw [List.length_map,List.length_range]; exact hs,by rw [List.length_map,List.length_range]; exact hm,hc⟩⟩
theorem IM {w0:Base} {w:World} {L:AD} {g sz m:Nat} {e:TypeId} {f:Nat→List Value} {sp:List Value} (hf:∀ k,(f k).length=sz) (hw:St w0 w L) (hb:(g,e,(AQ f m++sp).toArray)∈L):Lst w sz (pA g) m f:=by
 have hbk:=(hw.blk _ _ _ hb).2
 refine ⟨g,0,λ_=>⟨rfl,hbk.lt,λj hj=>?_⟩⟩
 rw [Nat.zero_add]
 refine Bw hbk ?_
 show (((AQ f m++sp)).drop (j*sz)).take _=_
 rw [hf j,DU hj,List.append_assoc,List.drop_append_of_le_length (by rw [Ax hf]; exact Nat.le_refl _),List.drop_of_length_le (by rw [Ax hf]; exact Nat.le_refl _),List.nil_append,List.append_assoc,List.take_left' (hf j)]
theorem Mk {f:Nat→List Value} {sz m k o:Nat} {sp v:List Value} (hf:∀ k,(f k).length=sz) (hv:v.length=sz) (hk:k<m) (ho:o=0+k*sz):setAll (AQ f m++sp).toArray o v=(AQ (λj=>if j=k then v else f j) m++sp).toArray:=by
 have hl:=Ax hf m
 have hkm:k*sz+sz≤m*sz:=by have:=Nat.mul_le_mul_right sz (show k+1≤m from hk); rwa [Nat.succ_mul] at this
 have h1:=Ci v o (AQ f m++sp).toArray (by rw [List.size_toArray,List.length_append]; omega)
 have h2:=Ci v o (AQ f m).toArray (by rw [List.size_toArray]; omega)
 have h3:=Gf (f:=f) hf hv hk (show o=k*sz by omega)
 rw [h2] at h3
 have h4:=congrArg Array.toList h3
 rw [h1]
 refine congrArg List.toArray ?_
 simp only at h4 ⊢
 rw [← h4,List.take_append_of_le_length om,List.drop_append_of_le_length om,List.append_assoc,List.append_assoc]
theorem Mn {f:Nat→List Value} {sz m k o:Nat} {sp:List Value} (hf:∀ k,(f k).length=sz) (hk:k<m) (ho:o=0+k*sz):o+sz≤(AQ f m++sp).toArray.size:=by
 have hkm:k*sz+sz≤m*sz:=by have:=Nat.mul_le_mul_right sz (show k+1≤m from hk); rwa [Nat.succ_mul] at this
 rw [List.size_toArray,List.length_append,Ax hf]
 omega
end Sy
end
section
namespace Cu
open Go.RowKit Sy
def Aq (z:Int) (x:Nat):List Value:=.int .i64 z::fws x
section
variable (At:Nat→Int) (sx:Nat→Nat) (n:Nat→Nat) (X Y:Nat→Nat→Nat) (I:Nat→Nat→Bool)
def Ff (i:Nat):Bool:=decide (0≤At i) && (decide (At i<(n i:Int)) && Bc (sx i) (X i (At i).toNat) (Y i (At i).toNat) (I i (At i).toNat))
def DV (NS NR:Nat):Bool:=decide (NS=NR) && (List.range NR).all (Ff At sx n X Y I)
end
section
variable {At:Nat→Int} {sx:Nat→Nat} {n:Nat→Nat} {X Y:Nat→Nat→Nat} {I:Nat→Nat→Bool} {NS NR k q:Nat}
theorem P1 (h:At k<0):Ff At sx n X Y I k=false:=by unfold Ff; rw [decide_eq_false (by omega:¬ 0≤At k)]; rfl
theorem OK (h:At k ≥ ((n k:Nat):Int)):Ff At sx n X Y I k=false:=by unfold Ff; rw [decide_eq_false (by omega:¬ At k<(n k:Int)),Bool.false_and,Bool.and_false]
theorem K3 (h1:¬ At k<0) (h2:¬ At k ≥ ((n k:Nat):Int)) (hq:At k=(q:Int)):Ff At sx n X Y I k=Bc (sx k) (X k q) (Y k q) (I k q):=by
 unfold Ff
 rw [decide_eq_true (by omega:0≤At k),decide_eq_true (by omega:At k<(n k:Int)),hq]
 rfl
theorem OL (h:¬ NS=NR):DV At sx n X Y I NS NR=false:=by unfold DV; rw [decide_eq_false h]; rfl
theorem It (hk:k<NR) (h:Ff At sx n X Y I k=false):DV At sx n X Y I NS NR=false:=by
 unfold DV
 rw [show (List.range NR).all (Ff At sx n X Y I)=false from List.all_eq_false.2 ⟨k,List.mem_range.2 hk,by rw [h]; decide⟩,Bool.and_false]
theorem Ju (h1:NS=NR) (h:∀ j,j<NR→Ff At sx n X Y I j=true):DV At sx n X Y I NS NR=true:=by
 unfold DV
 rw [decide_eq_true h1,List.all_eq_true.2 λj hj=>h j (List.mem_range.1 hj)]
 rfl
end
theorem P2 (w:World) (S:Option Addr) (NS cS:Nat) (At:Nat→Int) (sx:Nat→Nat) (hsx:∀ i,sx i<K4) (hNS:NS≤4611686018427387904) (hls:Lst w 5 S NS (λi=>Aq (At i) (sx i))) (R:Option Addr) (NR cR:Nat) (a:Nat→Option Addr) (n c:Nat→Nat) (X Y:Nat→Nat→Nat) (I:Nat→Nat→Bool) (hX:∀ i k,X i k<K4) (hY:∀ i k,Y i k<K4) (hNR:NR≤4611686018427387904) (hn:∀ i,n i≤4611686018427387904) (hlr:Lst w 1 R NR (λi=>[.slice (a i) (n i) (c i)])) (hlk:∀ i,i<NR→Lst w 9 (a i) (n i) (λk=>pml (X i k) (Y i k) (I i k))):Calls Tryz.prog 37 #[.slice S NS cS,.slice R NR cR] w (Gets w (.bool (DV At sx n X Y I NS NR))):=by
 have hls0:=hls
 obtain ⟨gS,oS,hS⟩:=hls
 have hlr0:=hlr
 obtain ⟨gR,oR,hR⟩:=hlr
 refine Sy.enter (args:=[.slice S NS cS,.slice R NR cR]) Tryz.func37 U kL<|sC<|sP (.bool false)<|sG<|Sy.seq<|sC<|sP (.slice S NS cS)<|sP (iZ NS)<|sP (.slice R NR cR)<|sP (iZ NR) ?_
 obtain ⟨b1,hb1⟩:=xE (decide (NS≠NR))
 refine sS (.bool b1) (qne U U U hb1)<|sG ?_
 cases b1
 ·have lb1:=dN hb1
  refine sU<|Sy.skip<|Sy.then_<|Sy.seq<|sC<|sP (.slice R NR cR)<|sP (iZ NR)<|sP (.int .i64 0)<|sG<|Sy.block<|Sy.loopH NR (λk1=>∀ j,j<k1→Ff At sx n X Y I j=true) (λk1=>[(0,.slice S NS cS),(1,.slice R NR cR),(13,.slice R NR cR),(14,iZ NR),(15,iZ k1)]) (λk1=>[]) [] (M:=[]) (λj hj=>absurd hj (Nat.not_lt_zero _)) ac5 kR U (λk1 hk1 hh=>?_)
  have hh1:=hh
  refine sC ?_
  obtain ⟨b2,hb2⟩:=xE (decide (k1<NR))
  refine sS (.bool b2) (qls U U U hb2)<|sG<|Sy.seq ?_
  cases b2
  ·have lb2:=dN hb2
   refine sU<|Sy.exit<|Sy.then_exit<|Sy.then_exit ?_
   obtain rfl:NR=k1:=om
   refine Sy.in_exit<|sB<|sP (.bool true)<|sG<|Sy.ret ?_
   rw [show (.bool (DV At sx n X Y I NS NR):Value)=.bool true from by rw [Ju om (λj hj=>hh1 j om)]]
   exact rV (.bool true) rfl
  ·have lb2:=dY hb2
   refine sT<|Sy.skip<|Sy.then_<|Sy.seq<|Sy.block<|sC<|sP (iZ k1)<|sS (.pointer (some ⟨gR,oR+k1*1,none⟩)) (Quiet.pure (AJ 25 _ _ _ R gR oR NR cR k1 1 .i64 (hR om).1 U U U Bl kF om))<|sS (.slice (a k1) (n k1) (c k1)) (Quiet.thereOne gR (oR+k1*1) 45 _ _ U kR (hR om).2.1 _ (AV ((hR om).2.2 k1 om) 0 U) CJ U)<|sP (iZ k1)<|sP (.slice (a k1) (n k1) (c k1))<|sA<|sP (.slice S NS cS)<|sP (iZ k1)<|sS (.pointer (some ⟨gS,oS+k1*5,none⟩)) (Quiet.pure (AJ 26 _ _ _ S gS oS NS cS k1 5 .i64 (hS om).1 U U U C4 kF om))<|sP (.pointer (some ⟨gS,oS+k1*5+0,none⟩))<|sS (.int .i64 (At k1)) (Quiet.thereOne gS (oS+k1*5+0) 3 _ _ U kR (hS om).2.1 _ (AV ((hS om).2.2 k1 om) 0 U) uy3 U)<|sP (.int .i64 (At k1))<|sH (λj=>false) ?_
   refine sZ 0 U (.int .i64 (At k1)) ?_
   obtain ⟨b3,hb3⟩:=xE (decide ((At k1)<0))
   refine sD 1 U (.bool b3) (Quiet.pure (AO .lss _ _ _ .i64 _ _ _ U U U (Il _ _ _ _ _ hb3.symm)))<|sZ 2 U (.bool b3) ?_
   cases b3
   ·have lb3:=dN hb3
    refine sZ 3 U (.int .i64 (At k1))<|sZ 4 U (.slice (a k1) (n k1) (c k1))<|sZ 5 U (iZ ((n k1))) ?_
    obtain ⟨b4,hb4⟩:=xE (decide ((At k1) ≥ (((n k1):Nat):Int)))
    refine sD 6 U (.bool b4) (Quiet.pure (AO .geq _ _ _ .i64 _ _ _ U U U (D9 _ _ _ _ _ hb4.symm)))<|sZ 7 U (.bool b4)<|sZ 8 U (.bool b4) ?_
    cases b4
    ·have lb4:=dN hb4
     refine sZ 9 U (.slice S NS cS)<|sZ 10 U (iZ k1)<|sD 11 U (.pointer (some ⟨gS,oS+k1*5,none⟩)) (Quiet.pure (AJ 26 _ _ _ S gS oS NS cS k1 5 .i64 (hS om).1 U U U C4 kF om))<|sZ 12 U (.pointer (some ⟨gS,oS+k1*5+1,none⟩))<|sD 13 U (fv (sx k1)) (Quiet.there gS (oS+k1*5+1) 4 42 (fws (sx k1)) _ _ U kR (hS om).2.1 (D3 ((hS om).2.2 k1 om) 1 U) Ab U kR U _ U)<|sZ 14 U (.slice (a k1) (n k1) (c k1))<|sZ 15 U (.int .i64 (At k1)) ?_
     obtain ⟨gK,oK,hT⟩:=hlk k1 om
     obtain ⟨q1,hq1⟩:∃ q:Nat,(At k1)=(q:Int):=⟨((At k1)).toNat,by omega⟩
     refine sD 16 U (.pointer (some ⟨gK,oK+q1*9,none⟩)) (Quiet.pure (AJ 45 _ _ _ (a k1) gK oK (n k1) (c k1) q1 9 .i64 (hT om).1 U U (show Value.int .i64 (At k1)=iZ q1 from by rw [hq1]) CJ kF om))<|sD 17 U (pv (X k1 q1) (Y k1 q1) (I k1 q1)) (Quiet.there gK (oK+q1*9) 9 48 (pml (X k1 q1) (Y k1 q1) (I k1 q1)) _ _ U kR (hT om).2.1 ((hT om).2.2 q1 om) An U kR U _ U) ?_
     obtain ⟨b5,hb5⟩:=xE (Bc (sx k1) (X k1 q1) (Y k1 q1) (I k1 q1))
     refine sD 18 U (.bool b5) (qF 93 #[fv (sx k1),pv (X k1 q1) (Y k1 q1) (I k1 q1)] (λw=>by rw [hb5]; exact Hs w _ _ _ _ (hsx k1) (hX k1 q1) (hY k1 q1))) ?_
     cases b5
     ·refine sZ 19 U (.bool true)<|sZ 20 U (.bool true) ?_
      refine sI<|sT<|sC<|sP (.bool false)<|sG<|Sy.ret<|Sy.in_ret<|Sy.then_ret<|Sy.then_ret<|Sy.in_ret<|Sy.then_ret ?_
      rw [show (.bool (DV At sx n X Y I NS NR):Value)=.bool false from by rw [It om ((K3 lb3 lb4 hq1).trans hb5.symm)]]
      exact rV (.bool false) rfl
     ·refine sZ 19 U (.bool false)<|sZ 20 U (.bool false) ?_
      refine sI<|sU<|Sy.skip<|Sy.in_<|Sy.then_<|Sy.region<|sS (iZ (k1+1)) (qad U U U)<|sP (iZ (k1+1))<|Sy.nil ?_
      exact Sy.againH [] (M:=[]) om (λj hj=>(Nat.lt_succ_iff_lt_or_eq.1 hj).elim (hh1 j) (λh=>by rw [h]; exact (K3 lb3 lb4 hq1).trans hb5.symm)) ac5 kR U
    ·have lb4:=dY hb4
     refine sQ 9 U<|sQ 10 U<|sQ 11 U<|sQ 12 U<|sQ 13 U<|sQ 14 U<|sQ 15 U<|sQ 16 U<|sQ 17 U<|sQ 18 U<|sQ 19 U<|sZ 20 U (.bool true)<|sI<|sT<|sC<|sP (.bool false)<|sG<|Sy.ret<|Sy.in_ret<|Sy.then_ret<|Sy.then_ret<|Sy.in_ret<|Sy.then_ret ?_
     rw [show (.bool (DV At sx n X Y I NS NR):Value)=.bool false from by rw [It om (OK lb4)]]
     exact rV (.bool false) rfl
   ·have lb3:=dY hb3
    refine sQ 3 U<|sQ 4 U<|sQ 5 U<|sQ 6 U<|sZ 7 U (.bool true)<|sZ 8 U (.bool true)<|sQ 9 U<|sQ 10 U<|sQ 11 U<|sQ 12 U<|sQ 13 U<|sQ 14 U<|sQ 15 U<|sQ 16 U<|sQ 17 U<|sQ 18 U<|sQ 19 U<|sZ 20 U (.bool true)<|sI<|sT<|sC<|sP (.bool false)<|sG<|Sy.ret<|Sy.in_ret<|Sy.then_ret<|Sy.then_ret<|Sy.in_ret<|Sy.then_ret ?_
    rw [show (.bool (DV At sx n X Y I NS NR):Value)=.bool false from by rw [It om (P1 lb3)]]
    exact rV (.bool false) rfl
 ·have lb1:=dY hb1
  refine sT<|sC<|sP (.bool false)<|sG<|Sy.ret<|Sy.then_ret ?_
  rw [show (.bool (DV At sx n X Y I NS NR):Value)=.bool false from by rw [OL lb1]]
  exact rV (.bool false) rfl
end Cu
end
section
namespace Cu
open Go.RowKit Sy
section
variable (bm sd:List UInt8) (X Y:Nat→Nat→Nat) (I:Nat→Nat→Bool) (at_:Nat→Nat) (nk:Nat→Nat) (sx:Nat→Nat)
def sgX (i:Nat):List UInt8:=A3 (evP (rgN bm sd i))
def sgL (i:Nat):List UInt8:=alX (rgF bm sd i) bm i (at_ i+1) (X i) (Y i) (I i) (sgX bm sd i) (nk i - (at_ i+1))
def EV:Nat→List UInt8
 | 0=>[]
 | k+1=>EV k++sgL bm sd X Y I at_ nk k
def sgD (NR:Nat):List UInt8:=rgT bm (EV bm sd X Y I at_ nk NR)
def sgE (d:List UInt8) (i:Nat):Nat:=rgC bm (alX (rgF bm sd i) bm i 0 (X i) (Y i) (I i) d (at_ i)) i (at_ i)
def sgS (d:List UInt8) (i j:Nat):Nat:=if j=at_ i then Sc.subP (rgN bm sd i) (Sc.mulP (sgE bm sd X Y I at_ d i) (sx i)) else rgF bm sd i j
def sgK (d:List UInt8) (k i j:Nat):List Value:=fws (if i<k then sgS bm sd X Y I at_ sx d i j else rgF bm sd i j)
def sgF (d:List UInt8) (i j:Nat):List Value:=fws (sgS bm sd X Y I at_ sx d i j)
end
section
variable {bm sd:List UInt8} {X Y:Nat→Nat→Nat} {I:Nat→Nat→Bool} {at_:Nat→Nat} {nk:Nat→Nat} {sx:Nat→Nat} {d:List UInt8}
theorem IK (i:Nat):(sgX bm sd i).length=33:=A5 _
theorem Rc {s:Nat→Nat} {i f k:Nat} {X Y:Nat→Nat} {I:Nat→Bool} {x:List UInt8} (h:x.length=33):(alX s bm i f X Y I x k).length=33:=by
 rcases Nat.eq_zero_or_pos k with h0 | h0
 ·rw [h0]; exact h
 ·exact F1 h0
theorem LX (i:Nat):(sgL bm sd X Y I at_ nk i).length=33:=Rc (IK i)
theorem GE:∀ k,(EV bm sd X Y I at_ nk k).length=33*k
 | 0=>rfl
 | k+1=>by
  show (EV bm sd X Y I at_ nk k++_).length=_
  rw [List.length_append,GE k,LX]
  omega
theorem Fm (NR:Nat):(sgD bm sd X Y I at_ nk NR).length=32:=IU _ _
theorem NL (i j:Nat):sgS bm sd X Y I at_ sx d i j<K4:=by
 unfold sgS
 split
 ·exact Sc.subP_lt _ _
 ·exact C6 _ _ _ _
theorem NN:sgK bm sd X Y I at_ sx d 0=fkF bm sd:=by
 funext i j
 unfold sgK fkF
 rw [if_neg (Nat.not_lt_zero _)]
theorem Qx (k:Nat):sgK bm sd X Y I at_ sx d k k=λj=>fws (rgF bm sd k j):=by
 funext j
 unfold sgK
 rw [if_neg (Nat.lt_irrefl _)]
theorem Qw {k i:Nat} (h:i≠k):sgK bm sd X Y I at_ sx d (k+1) i=sgK bm sd X Y I at_ sx d k i:=by
 funext j
 unfold sgK
 by_cases h1:i<k
 ·rw [if_pos h1,if_pos om]
 ·rw [if_neg h1,if_neg om]
theorem O' {r:Nat→Slc} {e:TypeId} {NR:Nat} (h:RowsAre r e 4 (sgK bm sd X Y I at_ sx d NR) (Bz nk NR 0)):RowsAre r e 4 (sgF bm sd X Y I at_ sx d) (Bz nk NR 0):=λi=>by
 have q:=h i
 by_cases hi:i<NR
 ·have e:sgK bm sd X Y I at_ sx d NR i=sgF bm sd X Y I at_ sx d i:=by
   funext j
   unfold sgK sgF
   rw [if_pos hi]
  rwa [e] at q
 ·have e:Bz nk NR 0 i=0:=by unfold Bz; rw [if_neg hi]; split <;> rfl
  rw [e,List.range_zero,List.map_nil] at q ⊢
  exact q
theorem O_ (k:Nat):(λj=>if j=at_ k then fws (Sc.subP (rgN bm sd k) (Sc.mulP (sgE bm sd X Y I at_ d k) (sx k))) else fws (rgF bm sd k j))=sgK bm sd X Y I at_ sx d (k+1) k:=by
 funext j
 unfold sgK sgS
 rw [if_pos (Nat.lt_succ_self k)]
 split <;> rfl
end
theorem AlR.tx {A:Option Addr} {n c M:Nat} {l:List UInt8} {v:Value} {Mq:AD} (h:AlR A n c M l v Mq) (hl:0<M→l.length=33) {w0:Base} (T0:AD) (h0:M=0→l.length=n∧n≤c∧c≤33∧∀ w L,St w0 w L→(∀ b∈T0,b∈L)→Sh.Src w A l) :
  ∃ (B:Option Addr) (k:Nat),v=.slice B (if M=0 then n else 33) k∧l.length=(if M=0 then n else 33)∧l.length≤k∧k≤33∧∀ w L,St w0 w L→(∀ b∈T0++Mq,b∈L)→Sh.Src w B l:=by
 rcases h with ⟨h1,rfl,rfl⟩ | ⟨h1,q,rfl,rfl⟩
 ·obtain ⟨a1,a2,a3,a4⟩:=h0 h1
  exact ⟨A,c,by rw [if_pos h1],by rw [if_pos h1,a1],by omega,a3,λw L hw hb=>a4 w L hw (λb h=>hb b (List.mem_append.2 (.inl h)))⟩
 ·have hne:¬ M=0:=om
  have hl:=hl h1
  exact ⟨_,33,by rw [if_neg hne],by rw [if_neg hne,hl],by omega,Nat.le_refl _,λw L hw hb=>Sh.Src.of_blk (hw.blk _ _ _ (hb _ (List.mem_append.2 (.inr (List.mem_singleton.2 U))))).2⟩
theorem Qv {bm sd:List UInt8} {X Y:Nat→Nat→Nat} {I:Nat→Nat→Bool} {at_ nk:Nat→Nat} {q7 i:Nat} {v:Value} {Mq:AD} {w0:Base} (h:AlR (pA q7) 33 33 (nk i - (at_ i+1)) (sgL bm sd X Y I at_ nk i) v Mq) :
  ∃ (B:Option Addr) (k:Nat),v=.slice B 33 k∧(sgL bm sd X Y I at_ nk i).length=33∧(sgL bm sd X Y I at_ nk i).length≤k∧k≤33∧∀ w L,St w0 w L→(∀ b∈[(q7,174,((sgX bm sd i).map bv).toArray)]++Mq,b∈L)→Sh.Src w B (sgL bm sd X Y I at_ nk i):=by
 have q:=AlR.tx (w0:=w0) h (λ_=>LX i) [(q7,174,((sgX bm sd i).map bv).toArray)] (λh0=>by
  have e:sgL bm sd X Y I at_ nk i=sgX bm sd i:=by
   unfold sgL
   rw [h0]
   rfl
  rw [e]
  exact ⟨IK _,by decide,by decide,λv L hv hb=>Sh.Src.of_blk (hv.blk _ _ _ (hb _ (List.mem_singleton.2 U))).2⟩)
 rw [ite_self] at q
 exact q
theorem Qu {z d:List UInt8} {W:Option Addr} {N c:Nat} (hz:z.length=32) (hd:d.length=32):setAll (AZ z W N c).toArray 0 (d.map bv).toArray.toList=(AZ d W N c).toArray:=by
 have h:=Ci (d.map bv) 0 (AZ z W N c).toArray (by rw [List.size_toArray,BD hz,List.length_map,hd]; decide)
 rw [show (d.map bv).toArray.toList=d.map bv from rfl,h]
 refine congrArg List.toArray ?_
 simp only [List.take_zero,List.nil_append,List.length_map,hd]
 unfold AZ
 rw [List.drop_left' (by rw [List.length_map,hz])]
def I5 (d:List UInt8) (f:Nat→Nat→List Value) (nk:Nat→Nat) (NR:Nat) (v:Value) (M:AD):Prop:=∃ g r,v=A4 d (pA g) NR NR∧M=(g,51,Ai r NR)::BJ r NR∧RowsAre r 42 4 f (Bz nk NR 0)
theorem MG (w:World) (R:Option Addr) (NR cR:Nat) (a:Nat→Option Addr) (nk ck:Nat→Nat) (X Y:Nat→Nat→Nat) (I:Nat→Nat→Bool) (hX:∀ i k,X i k<K4) (hY:∀ i k,Y i k<K4) (hNR:NR≤4611686018427387904) (hnk:∀ i,nk i≤4611686018427387904) (hlr:Lst w 1 R NR (λi=>[.slice (a i) (nk i) (ck i)])) (hlk:∀ i,i<NR→Lst w 9 (a i) (nk i) (λk=>pml (X i k) (Y i k) (I i k))) (hN32:NR≤32) (hn64:∀ i,i<NR→nk i≤64) (hn1:∀ i,i<NR→1≤nk i) (bm:List UInt8) (hbm:bm.length=32) (sd:List UInt8) (hsd:sd.length=32) (S:Option Addr) (cS:Nat) (at_:Nat→Nat) (sx:Nat→Nat) (hsx:∀ i,sx i<K4) (hls:Lst w 5 S NR (λi=>Aq ((at_ i:Nat):Int) (sx i))) (hat:∀ i,i<NR→at_ i<nk i) (ht:Sh.TabAt w 1):Calls Tryz.prog 39 #[Aw R NR cR bm,.agg (sd.map bv).toArray,.slice S NR cS] w (GetsN w (I5 (sgD bm sd X Y I at_ nk NR) (sgF bm sd X Y I at_ sx (sgD bm sd X Y I at_ nk NR)) nk NR)):=by
 have hlr0:=hlr
 obtain ⟨gR,oR,hR⟩:=hlr
 obtain ⟨gQ,oQ,hQ⟩:=hls
 refine Sy.enter (args:=[Aw R NR cR bm,.agg (sd.map bv).toArray,.slice S NR cS]) Tryz.func39 U kL<|sC<|sM 79 (Ag R NR cR bm).toArray (λg0=>?_)
 refine sM 23 (sd.map bv).toArray (λg1=>?_)
 refine sM 31 zS33.toArray (λg2=>?_)
 refine sA<|sS (Aw R NR cR bm) (Quiet.load 0 g0 0 33 79 79 (Ag R NR cR bm).toArray _ _ U kR kR DF U kR _ (Az hbm) (A7 hbm))<|sS (.agg (sd.map bv).toArray) (Quiet.load 1 g1 0 32 23 23 (sd.map bv).toArray _ _ U kR kR C8 U kR _ (BK sd hsd) (Bj sd hsd))<|Sy.callN kR 96 #[Aw R NR cR bm,.agg (sd.map bv).toArray] kF (EG 51 42 4 (fkF bm sd) (Bz nk NR 0) NR) (λw hw=>K5 w R NR cR a nk ck X Y I hX hY hNR hnk (hlr0.below hw.below) (λi hi=>(hlk i hi).below hw.below) hN32 hn64 bm hbm sd hsd (ht.below hw.below ht.lt)) (λvq Mq hR0=>?_)
 obtain ⟨gF,r0,rfl,rfl,hr0⟩:=hR0
 refine Sy.permS (M:=[(g0,79,(Ag R NR cR bm).toArray),(g1,23,(sd.map bv).toArray),(g2,31,zS33.toArray),(gF,51,(Ai r0 NR))]++(BJ r0 NR++(nilS.bl++[]))) (by show List.Perm _ ([(g0,79,(Ag R NR cR bm).toArray),(g1,23,(sd.map bv).toArray),(g2,31,zS33.toArray),(gF,51,(Ai r0 NR))]++(BJ r0 NR++[])); rw [List.append_nil]; exact List.Perm.refl _)<|sP (A4 (List.replicate 32 (0:UInt8)) (pA gF) NR NR)<|sM 31 zS33.toArray (λg3=>?_)
 refine Sy.movT<|sW 4 g3 31 zS33.toArray (AZ (List.replicate 32 (0:UInt8)) (pA gF) NR NR).toArray (Writes.row 31 (AZ (List.replicate 32 (0:UInt8)) (pA gF) NR NR) 33 _ _ U kR kR kR (BD List.length_replicate) (by rw [List.size_toArray,BD List.length_replicate]) EU)<|Sy.setT<|sA<|sP (.slice none 0 0)<|sG<|Sy.seq<|sC<|sP (.slice S NR cS)<|sP (iZ NR)<|sP (.int .i64 0)<|sG<|Sy.block<|Sy.loopT (Y:=Slc×AD×List Sh.Tx) NR (λk1 y1=>[(2,.slice S NR cS),(3,pT g0 0),(4,pT g1 0),(6,pT g2 0),(7,pT g3 0),(8,y1.1.v),(20,.slice S NR cS),(21,iZ NR),(22,iZ k1)]) (λk1 y1=>[(g0,79,(Ag R NR cR bm).toArray),(g1,23,(sd.map bv).toArray),(g2,31,zS33.toArray),(gF,51,(Ai r0 NR)),(g3,31,(AZ (List.replicate 32 (0:UInt8)) (pA gF) NR NR).toArray)]++(BJ r0 NR++(y1.1.bl++y1.2.1))) (λk1 y1=>TxsIs (Base.of w) 24 y1.1 y1.2.1 y1.2.2∧Sh.cat y1.2.2=EV bm sd X Y I at_ nk k1∧y1.2.2.length=k1) (nilS,[],[]) ⟨TxsIs.nil _ _,rfl,rfl⟩ ac9 (λw hw=>hw) (λk1 y1 hk1 hh1=>?_)
 refine sC ?_
 obtain ⟨b1,hb1⟩:=xE (decide (k1<NR))
 refine sS (.bool b1) (qls U U U hb1)<|sG<|Sy.seq ?_
 cases b1
 ·have lb1:=dN hb1
  refine sU<|Sy.exit<|Sy.then_exit<|Sy.then_exit ?_
  obtain rfl:NR=k1:=om
  refine Sy.in_exit<|sB<|sS (Aw R NR cR bm) (Quiet.load 0 g0 0 33 79 79 (Ag R NR cR bm).toArray _ _ U kR kR DF U kR _ (Az hbm) (A7 hbm))<|sP (y1.1.v) ?_
  obtain ⟨d0,hd0⟩:=xE (sgD bm sd X Y I at_ nk NR)
  have hdl:d0.length=32:=by rw [hd0]; exact Fm _
  refine sS (.agg (d0.map bv).toArray) (Quiet.callS 101 #[Aw R NR cR bm,y1.1.v] kF (λw hw=>by obtain ⟨Q,dd,hv,hc9,_,htx⟩:=hh1.1.texts; rw [hv,hd0]; have hel:=GE (bm:=bm) (sd:=sd) (X:=X) (Y:=Y) (I:=I) (at_:=at_) (nk:=nk) NR; have q:=Gh w R NR cR bm hbm Q _ dd y1.2.2 (htx hw (λb hb=>List.mem_append.2 (.inr (List.mem_append.2 (.inr (List.mem_append.2 (.inl hb)))))) (λb hb=>List.mem_append.2 (.inr (List.mem_append.2 (.inr (List.mem_append.2 (.inr hb))))))) (hh1.1.ok w _ hw (λb hb=>List.mem_append.2 (.inr (List.mem_append.2 (.inr (List.mem_append.2 (.inr hb))))))) U hc9 om (by rw [hh1.2.1]; omega) (ht.below hw.below ht.lt); rw [hh1.2.1] at q; exact q))<|sP (pT g3 0)<|sW 4 g3 31 (AZ (List.replicate 32 (0:UInt8)) (pA gF) NR NR).toArray (AZ d0 (pA gF) NR NR).toArray (Writes.store 0 23 (d0.map bv).toArray _ _ U kR kR (by rw [Eb d0 hdl]; kernel_rfl) (by rw [Eb d0 hdl,List.size_toArray,BD List.length_replicate]; decide) (Ij _) (Qu List.length_replicate hdl))<|Sy.setT<|sG<|Sy.seq<|sC<|sP (.slice S NR cS)<|sP (iZ NR)<|sP (.int .i64 0)<|sG<|Sy.block<|Sy.loopT (Y:=Nat→Slc) NR (λk1 y1=>[(3,pT g0 0),(4,pT g1 0),(6,pT g2 0),(7,pT g3 0),(60,.slice S NR cS),(61,iZ NR),(62,iZ k1)]) (λk1 y1=>[(g0,79,(Ag R NR cR bm).toArray),(g1,23,(sd.map bv).toArray),(g2,31,zS33.toArray),(gF,51,(Ai y1 NR)),(g3,31,(AZ d0 (pA gF) NR NR).toArray)]++(BJ y1 NR++[])) (λk1 y1=>RowsAre y1 42 4 (sgK bm sd X Y I at_ sx d0 k1) (Bz nk NR 0)) r0 (by rw [NN]; exact hr0) ac7 (λw hw=>(hw.less ((List.Sublist.refl _).append ((List.Sublist.refl _).append (List.nil_sublist _))))) (λk1 y1 hk1 hh1=>?_)
  refine sC ?_
  obtain ⟨b2,hb2⟩:=xE (decide (k1<NR))
  refine sS (.bool b2) (qls U U U hb2)<|sG<|Sy.seq ?_
  cases b2
  ·have lb2:=dN hb2
   refine sU<|Sy.exit<|Sy.then_exit<|Sy.then_exit ?_
   obtain rfl:NR=k1:=om
   refine Sy.in_exit<|sB<|sS (A4 d0 (pA gF) NR NR) (Quiet.load 4 g3 0 33 31 31 (AZ d0 (pA gF) NR NR).toArray _ _ U kR kR Gz U kR _ (C_ hdl) (E7 hdl))<|sW 2 g2 31 zS33.toArray (AZ d0 (pA gF) NR NR).toArray (Writes.row 31 (AZ d0 (pA gF) NR NR) 33 _ _ U kR kR kR (BD hdl) (by rw [List.size_toArray,BD List.length_replicate]) EU)<|Sy.setT<|sG<|Sy.ret ?_
   exact JU ((gF,51,Ai y1 NR)::BJ y1 NR) rfl (v:=A4 d0 (pA gF) NR NR) (.inl (Res.cell (ty':=31) g2 2 (AZ d0 (pA gF) NR NR).toArray _ kR kR Gz U (by rw [List.size_toArray,BD hdl]; kernel_rfl) rfl)) (λw hw=>by simpa using St.pick (pre:=[(g0,79,(Ag R NR cR bm).toArray),(g1,23,(sd.map bv).toArray),(g2,31,(AZ d0 (pA gF) NR NR).toArray),(gF,51,(Ai y1 NR)),(g3,31,(AZ d0 (pA gF) NR NR).toArray)]) (M:=[(gF,51,Ai y1 NR)]) [3] dZ kR hw) ⟨gF,y1,by rw [hd0],rfl,by rw [← hd0]; exact O' hh1⟩
  ·have lb2:=dY hb2
   have hnk1:=hn64 k1 lb2
   have hat1:=hat k1 lb2
   obtain ⟨gk,ck2,sp,hkv,hkb,hk1s,hk2s,hk3s⟩:=(show (y1 k1).Is _ _ _ from hh1 k1).open (by rw [Cr lb2]; omega)
   rw [Cr lb2] at hkv hkb hk1s hk2s
   rw [Qx] at hkb
   obtain ⟨fR,hfR⟩:∃ f:Nat→List Value,f=λj=>fws (rgF bm sd k1 j):=⟨_,rfl⟩
   rw [← hfR] at hkb
   have hf4:∀ j,(fR j).length=4:=λj=>by rw [hfR]; rfl
   refine Sy.permC (Sy.out1 y1 lb2 hkb)<|sT<|Sy.skip<|Sy.then_<|Sy.seq<|Sy.block<|sC<|sP (iZ k1)<|sS (.pointer (some ⟨gQ,oQ+k1*5,none⟩)) (Quiet.pure (AJ 26 _ _ _ S gQ oQ NR cS k1 5 .i64 (hQ om).1 U U U C4 kF om))<|sS (.agg (Aq (((at_ k1):Nat):Int) (sx k1)).toArray) (Quiet.there gQ (oQ+k1*5) 5 44 (Aq ((at_ k1:Nat):Int) (sx k1)) _ _ U kR (hQ om).2.1 ((hQ om).2.2 k1 om) I' U kR U _ U)<|sM 44 (Aq ((0:Nat):Int) 0).toArray (λg4=>?_)
   refine Sy.movT<|sP (iZ k1)<|sW 6 g4 44 (Aq ((0:Nat):Int) 0).toArray (Aq (((at_ k1):Nat):Int) (sx k1)).toArray (Writes.row 44 (Aq (((at_ k1):Nat):Int) (sx k1)) 5 _ _ U kR kR kR U kR (λu hu=>by rcases List.mem_cons.1 hu with rfl | hu; exact rfl; exact DT _ u hu))<|Sy.setT<|sH (λj=>false) ?_
   refine sD 0 U (Aw R NR cR bm) (Quiet.load 0 g0 0 33 79 79 (Ag R NR cR bm).toArray _ _ U kR kR DF U kR _ (Az hbm) (A7 hbm))<|sZ 1 U (pT g3 0)<|sZ 2 U (.slice (pA g3) 32 32)<|sZ 3 U (pT g3 32)<|sD 4 U (.slice (pA gF) NR NR) (Quiet.cell 4 g3 32 31 29 (AZ d0 (pA gF) NR NR).toArray _ _ U kR kR CK U _ (Db hdl))<|sZ 5 U (iZ k1)<|sD 6 U (.pointer (some ⟨gF,0+k1*1,none⟩)) (Quiet.pure (Bv 29 _ _ _ gF 0 NR NR k1 1 .i64 U U U CK kF om))<|sD 7 U (.slice (pA gk) (nk k1) ck2) (Quiet.cell 3 gF (0+k1*1) 51 51 (Ai y1 NR) _ _ U kR kR Ca U _ ((Cj om U).trans (congrArg some hkv)))<|sZ 8 U (iZ k1)<|sZ 9 U (pT g4 0)<|sD 10 U (iZ ((at_ k1))) (qC 6 g4 0 44 3 (Aq (((at_ k1):Nat):Int) (sx k1)).toArray U uy3)<|Sy.callND 11 U kR kR 100 #[Aw R NR cR bm,.slice (pA g3) 32 32,.slice (pA gk) (nk k1) ck2,iZ k1,.int .i64 0,iZ ((at_ k1))] kF (AlR (pA g3) 32 32 (at_ k1) (alX (rgF bm sd k1) bm k1 0 (X k1) (Y k1) (I k1) d0 (at_ k1))) (λw hw=>by have q:=Gv w R NR cR a nk ck X Y I hX hY hNR hnk (hlr0.below hw.below) (λi hi=>(hlk i hi).below hw.below) bm hbm (pA g3) d0 32 32 hdl dZ dZ dZ (KP (hw.get (i:=4) rfl)) (pA gk) (nk k1) ck2 (rgF bm sd k1) (λ_=>C6 _ _ _ _) (by rw [← hfR]; exact IM hf4 hw (List.mem_append.2 (.inl (List.mem_of_getElem? (i:=5) rfl)))) k1 0 (at_ k1) om om om om om (ht.below hw.below ht.lt); rw [Nat.zero_add] at q; exact q) (λvq Mq hR0=>?_)
   obtain ⟨xA,xk,hxv,hxl,hxk,hx33,hxs⟩:=AlR.tx (w0:=Base.of w) hR0 (λh=>F1 h) [(g3,31,(AZ d0 (pA gF) NR NR).toArray)] (λh=>by rw [h]; exact ⟨hdl,by decide,by decide,λv L hv hb=>KP (hv.blk _ _ _ (hb _ (List.mem_singleton.2 U))).2⟩)
   obtain ⟨xn,hxn⟩:=xE ((if at_ k1=0 then 32 else 33))
   rw [← hxn] at hxl hxv
   subst hxv
   refine Sy.permD Sy.end_perm<|sZ 12 U (.slice xA xn xk)<|sE<|sB<|sS (Aw R NR cR bm) (Quiet.load 0 g0 0 33 79 79 (Ag R NR cR bm).toArray _ _ U kR kR DF U kR _ (Az hbm) (A7 hbm))<|sP (.slice xA xn xk)<|sP (iZ k1)<|sP (pT g4 0)<|sS (iZ ((at_ k1))) (qC 6 g4 0 44 3 (Aq (((at_ k1):Nat):Int) (sx k1)).toArray U uy3) ?_
   obtain ⟨ek,hek⟩:=xE (sgE bm sd X Y I at_ d0 k1)
   refine sS (fv ek) (Quiet.callS 102 #[Aw R NR cR bm,.slice xA xn xk,iZ k1,iZ ((at_ k1))] kF (λw hw=>by rw [hek]; exact EC w R NR cR bm hbm xA _ xn xk hxl om om om (hxs w _ hw (λb hb=>(List.mem_append.1 hb).elim (λh=>List.mem_append.2 (.inl (by rw [List.mem_singleton.1 h]; exact List.mem_of_getElem? (i:=4) rfl))) (λh=>List.mem_append.2 (.inr (List.mem_append.2 (.inr (List.mem_append.2 (.inr h)))))))) k1 (at_ k1) om om (ht.below hw.below ht.lt)))<|sM 42 (fcs 0) (λg5=>?_)
   refine Sy.movT<|sW 7 g5 42 (fcs 0) (fcs ek) (wS 0 42 (fcs ek) rfl)<|Sy.setT<|sG<|Sy.regionD (λj=>j == 17) kR<|sZ 0 U (pT g3 32)<|sD 1 U (.slice (pA gF) NR NR) (Quiet.cell 4 g3 32 31 29 (AZ d0 (pA gF) NR NR).toArray _ _ U kR kR CK U _ (Db hdl))<|sZ 2 U (iZ k1)<|sD 3 U (.pointer (some ⟨gF,0+k1*1,none⟩)) (Quiet.pure (Bv 29 _ _ _ gF 0 NR NR k1 1 .i64 U U U CK kF om))<|sD 4 U (.slice (pA gk) (nk k1) ck2) (Quiet.cell 3 gF (0+k1*1) 51 51 (Ai y1 NR) _ _ U kR kR Ca U _ ((Cj om U).trans (congrArg some hkv)))<|sZ 5 U (pT g4 0)<|sD 6 U (iZ ((at_ k1))) (qC 6 g4 0 44 3 (Aq (((at_ k1):Nat):Int) (sx k1)).toArray U uy3)<|sD 7 U (Aw R NR cR bm) (Quiet.load 0 g0 0 33 79 79 (Ag R NR cR bm).toArray _ _ U kR kR DF U kR _ (Az hbm) (A7 hbm))<|sD 8 U (.agg (sd.map bv).toArray) (Quiet.load 1 g1 0 32 23 23 (sd.map bv).toArray _ _ U kR kR C8 U kR _ (BK sd hsd) (Bj sd hsd))<|sZ 9 U (iZ k1) ?_
   obtain ⟨kn,hkn⟩:=xE (rgN bm sd k1)
   refine sD 10 U (fv kn) (Quiet.callS 98 #[Aw R NR cR bm,.agg (sd.map bv).toArray,iZ k1] kF (λw hw=>by rw [hkn]; exact EZ w R NR cR bm hbm sd hsd k1 om (ht.below hw.below ht.lt)))<|sD 11 U (fv ek) (qL 7 g5 0 4 42 42 (fcs ek) rfl Ab)<|sZ 12 U (pT g4 1)<|sD 13 U (fv (sx k1)) (qL 6 g4 1 4 44 42 (Aq (((at_ k1):Nat):Int) (sx k1)).toArray U Ab) ?_
   obtain ⟨km,hkm⟩:=xE (Sc.mulP ek (sx k1))
   refine sD 14 U (fv km) (qF 104 #[fv ek,fv (sx k1)] (λw=>by rw [hkm]; exact Sc.mulF_any w _ _ (by rw [hek]; exact EY _ _ _ _) (hsx _))) ?_
   obtain ⟨ks,hks⟩:=xE (Sc.subP kn km)
   refine sD 15 U (fv ks) (qF 103 #[fv kn,fv km] (λw=>by rw [hks]; exact Sc.subF_any w _ _ (by rw [hkn]; exact KV _ _ _) (by rw [hkm]; exact Sc.mod_lt _)))<|sD 16 U (.pointer (some ⟨gk,0+(at_ k1)*4,none⟩)) (Quiet.pure (Bv 51 _ _ _ gk 0 (nk k1) ck2 (at_ k1) 4 .i64 U U U Ca kF om))<|sX 17 U 5 gk 42 (AQ fR (nk k1)++sp).toArray (AQ (λj=>if j=(at_ k1) then fws ks else fR j) (nk k1)++sp).toArray (Writes.store (0+(at_ k1)*4) 42 (fcs ks) _ _ U kR kR kR (Mn (k:=(at_ k1)) hf4 om U) kR (Mk (k:=(at_ k1)) (v:=fws ks) hf4 U om U))<|Sy.setTD<|sE<|Sy.in_<|Sy.then_<|Sy.region<|sS (iZ (k1+1)) (qad U U U)<|sP (iZ (k1+1))<|Sy.nil ?_
   exact Sy.againT (Ct y1 k1 ⟨.slice (pA gk) (nk k1) ck2,[(gk,42,(AQ (λj=>if j=(at_ k1) then fws ks else fR j) (nk k1)++sp).toArray)]⟩) om (hh1.upd (by rw [Cr om, ← O_, ← hkn, ← hek, ← hkm, ← hks,hfR]; exact Slc.Is.close (λk=>by split <;> rfl) (λk=>by split <;> exact DT _) hk1s hk2s hk3s) (λi hi=>Qw hi)) ac7 (λw hw=>by rw [KT (by exact hkv.symm)]; exact St.back1 om (St.pick (pre:=[(g0,79,(Ag R NR cR bm).toArray),(g1,23,(sd.map bv).toArray),(g2,31,zS33.toArray),(gF,51,(Ai y1 NR)),(g3,31,(AZ d0 (pA gF) NR NR).toArray),(gk,42,(AQ (λj=>if j=(at_ k1) then fws ks else fR j) (nk k1)++sp).toArray),(g4,44,(Aq (((at_ k1):Nat):Int) (sx k1)).toArray),(g5,42,(fcs ek))]) (M:=[(g0,79,(Ag R NR cR bm).toArray),(g1,23,(sd.map bv).toArray),(g2,31,zS33.toArray),(gF,51,(Ai y1 NR)),(g3,31,(AZ d0 (pA gF) NR NR).toArray)]++[(gk,42,(AQ (λj=>if j=(at_ k1) then fws ks else fR j) (nk k1)++sp).toArray)]) [0,1,2,3,4,5] dZ kR hw))
 ·have lb1:=dY hb1
  have hnk1:=hn64 k1 lb1
  have hat1:=hat k1 lb1
  obtain ⟨wA,wc,hwv,_,_,hwl⟩:=hr0.lst (Cr lb1) lb1
  refine sT<|Sy.skip<|Sy.then_<|Sy.seq<|Sy.block<|sC<|sP (iZ k1)<|sS (.pointer (some ⟨gQ,oQ+k1*5,none⟩)) (Quiet.pure (AJ 26 _ _ _ S gQ oQ NR cS k1 5 .i64 (hQ om).1 U U U C4 kF om))<|sS (.agg (Aq (((at_ k1):Nat):Int) (sx k1)).toArray) (Quiet.there gQ (oQ+k1*5) 5 44 (Aq ((at_ k1:Nat):Int) (sx k1)) _ _ U kR (hQ om).2.1 ((hQ om).2.2 k1 om) I' U kR U _ U)<|sM 44 (Aq ((0:Nat):Int) 0).toArray (λg6=>?_)
  refine Sy.movT<|sP (iZ k1)<|sW 5 g6 44 (Aq ((0:Nat):Int) 0).toArray (Aq (((at_ k1):Nat):Int) (sx k1)).toArray (Writes.row 44 (Aq (((at_ k1):Nat):Int) (sx k1)) 5 _ _ U kR kR kR U kR (λu hu=>by rcases List.mem_cons.1 hu with rfl | hu; exact rfl; exact DT _ u hu))<|Sy.setT<|sA<|sS (Aw R NR cR bm) (Quiet.load 0 g0 0 33 79 79 (Ag R NR cR bm).toArray _ _ U kR kR DF U kR _ (Az hbm) (A7 hbm))<|sS (.agg (sd.map bv).toArray) (Quiet.load 1 g1 0 32 23 23 (sd.map bv).toArray _ _ U kR kR C8 U kR _ (BK sd hsd) (Bj sd hsd))<|sP (iZ k1)<|sS (fv (rgN bm sd k1)) (Quiet.callS 98 #[Aw R NR cR bm,.agg (sd.map bv).toArray,iZ k1] kF (λw hw=>EZ w R NR cR bm hbm sd hsd k1 om (ht.below hw.below ht.lt)))<|sS (pv gx.val gy.val false) (qF 99 #[] (LC))<|sS (pv (pX (evP (rgN bm sd k1))) (pY (evP (rgN bm sd k1))) (pI (evP (rgN bm sd k1)))) (qF 97 #[fv (rgN bm sd k1),pv gx.val gy.val false] (λw=>Lj (KV _ _ _) (lt4 _) (lt4 _) (show dec gx.val gy.val false=bP from Eu gx gy bP_on) rfl w))<|Sy.callN kR 94 #[pv (pX (evP (rgN bm sd k1))) (pY (evP (rgN bm sd k1))) (pI (evP (rgN bm sd k1)))] kF ((Dw (evP (rgN bm sd k1)))) (λw hw=>by have q:=Gl w (pX (evP (rgN bm sd k1))) (pY (evP (rgN bm sd k1))) (pI (evP (rgN bm sd k1))) (Hq _) (Hp _); rwa [B_ (K6 _)] at q) (λvq Mq hR0=>?_)
  obtain ⟨q7,rfl,rfl⟩:=hR0
  refine Sy.movT<|sP (.slice (pA q7) 33 33)<|sG<|Sy.regionD (λj=>j == 20) kR<|sZ 0 U (y1.1.v)<|Sy.stepDB 1 [18,19,20,21] rfl kR (λ_ _ _ _ h=>h) kR (Aw R NR cR bm) (Quiet.load 0 g0 0 33 79 79 (Ag R NR cR bm).toArray _ _ U kR kR DF U kR _ (Az hbm) (A7 hbm))<|Sy.stepDB 2 [18,19,20,21] rfl kR (λ_ _ _ _ h=>h) kR (.slice (pA q7) 33 33) qP<|Sy.stepDB 3 [4,6,7,18,19,20,21] rfl kR (λ_ _ _ _ h=>h) kR (pT g3 32) qP<|Sy.stepDB 4 [6,7,18,19,20,21] rfl kR (λ_ _ _ _ h=>h) kR (.slice (pA gF) NR NR) (Quiet.cell 4 g3 32 31 29 (AZ (List.replicate 32 (0:UInt8)) (pA gF) NR NR).toArray _ _ U kR kR CK U _ (Db List.length_replicate))<|Sy.stepDB 5 [6,7,18,19,20,21] rfl kR (λ_ _ _ _ h=>h) kR (iZ k1) qP<|Sy.stepDB 6 [7,18,19,20,21] rfl kR (λ_ _ _ _ h=>h) kR (.pointer (some ⟨gF,0+k1*1,none⟩)) (Quiet.pure (Bv 29 _ _ _ gF 0 NR NR k1 1 .i64 U U U CK kF om)) ?_
  refine Sy.stepDB 7 [18,19,20,21] rfl kR (λ_ _ _ _ h=>h) kR (.slice wA (nk k1) wc) (Quiet.cell 3 gF (0+k1*1) 51 51 (Ai r0 NR) _ _ U kR kR Ca U _ ((Cj om U).trans (congrArg some hwv)))<|Sy.stepDB 8 [18,19,20,21] rfl kR (λ_ _ _ _ h=>h) kR (iZ k1) qP<|Sy.stepDB 9 [10,11,18,19,20,21] rfl kR (λ_ _ _ _ h=>h) kR (pT g6 0) qP<|Sy.stepDB 10 [11,18,19,20,21] rfl kR (λ_ _ _ _ h=>h) kR (iZ ((at_ k1))) (qC 5 g6 0 44 3 (Aq (((at_ k1):Nat):Int) (sx k1)).toArray U uy3)<|Sy.stepDB 11 [18,19,20,21] rfl kR (λ_ _ _ _ h=>h) kR (iZ ((at_ k1)+1)) (qad U U U)<|Sy.stepDB 12 [13,15,16,17,18,19,20,21] rfl kR (λ_ _ _ _ h=>h) kR (pT g3 32) qP<|Sy.stepDB 13 [15,16,17,18,19,20,21] rfl kR (λ_ _ _ _ h=>h) kR (.slice (pA gF) NR NR) (Quiet.cell 4 g3 32 31 29 (AZ (List.replicate 32 (0:UInt8)) (pA gF) NR NR).toArray _ _ U kR kR CK U _ (Db List.length_replicate))<|Sy.stepDB 14 [15,16,17,18,19,20,21] rfl kR (λ_ _ _ _ h=>h) kR (iZ k1) qP<|Sy.stepDB 15 [16,17,18,19,20,21] rfl kR (λ_ _ _ _ h=>h) kR (.pointer (some ⟨gF,0+k1*1,none⟩)) (Quiet.pure (Bv 29 _ _ _ gF 0 NR NR k1 1 .i64 U U U CK kF om))<|Sy.stepDB 16 [17,18,19,20,21] rfl kR (λ_ _ _ _ h=>h) kR (.slice wA (nk k1) wc) (Quiet.cell 3 gF (0+k1*1) 51 51 (Ai r0 NR) _ _ U kR kR Ca U _ ((Cj om U).trans (congrArg some hwv)))<|Sy.stepDB 17 [18,19,20,21] rfl kR (λ_ _ _ _ h=>h) kR (iZ ((nk k1))) qP ?_
  refine Sy.callND 18 U kR kR 100 #[Aw R NR cR bm,.slice (pA q7) 33 33,.slice wA (nk k1) wc,iZ k1,iZ ((at_ k1)+1),iZ ((nk k1))] kF (AlR (pA q7) 33 33 (nk k1 - (at_ k1+1)) (sgL bm sd X Y I at_ nk k1)) (λw hw=>by have q:=Gv w R NR cR a nk ck X Y I hX hY hNR hnk (hlr0.below hw.below) (λi hi=>(hlk i hi).below hw.below) bm hbm (pA q7) (sgX bm sd k1) 33 33 (IK _) dZ dZ dZ (Sh.Src.of_blk (hw.get (i:=6) rfl)) wA (nk k1) wc (rgF bm sd k1) (λ_=>C6 _ _ _ _) (hwl hw (λb hb=>List.mem_append.2 (.inr (List.mem_append.2 (.inl hb))))) k1 (at_ k1+1) (nk k1 - (at_ k1+1)) om om om om om (ht.below hw.below ht.lt); rwa [show at_ k1+1+(nk k1 - (at_ k1+1))=nk k1 by omega] at q) (λvq Mq hR0=>?_)
  obtain ⟨xA,xk,rfl,hxl,hxk,hx33,hxs⟩:=Qv (w0:=Base.of w) hR0
  refine Sy.permD Sy.end_perm3<|Sy.makeD 19 U kR kR 24 #[.slice xA 33 xk] (λg=>.slice (pA g) 1 1) kF (λg7=>?_)
  refine Sy.movTD<|Sy.soleD 20 U (λQ1 hq1=>?_)
  refine Sy.permS Sy.rot_perm<|Sy.appendR kR 88 24 _ _ 1 24 Fd D_ U U U U dZ _ _ U hh1.1.row kR [.slice xA 33 xk] rfl (Id _ _ _) 7 g7 24 kR kR (by rw [List.length_map,hh1.2.2]; omega) (by rw [List.length_map,hh1.2.2]; simp only [maxLen]; omega) (λr1 hr1=>?_)
  refine Sy.permS Sy.tor_perm<|hq1 _ _<|Sy.anyOf [21] kR dZ (Sy.each1 ?_)
  refine Sy.oneQuiet U kR (r1.v) qP<|sE<|Sy.in_<|Sy.then_<|Sy.region<|sS (iZ (k1+1)) (qad U U U)<|sP (iZ (k1+1))<|Sy.nil ?_
  exact Sy.againT ((r1,y1.2.1++(Mq++[(q7,174,((sgX bm sd k1).map bv).toArray)]),y1.2.2++[(⟨xA,sgL bm sd X Y I at_ nk k1,xk⟩:Sh.Tx)])) om (⟨hh1.1.add (⟨xA,sgL bm sd X Y I at_ nk k1,xk⟩:Sh.Tx) (Mq++[(q7,174,((sgX bm sd k1).map bv).toArray)]) hr1 (by unfold Sh.Tx.val; rw [show (sgL bm sd X Y I at_ nk k1).length=33 from hxl]) (λv L hv hb=>⟨hxs v L hv (λb h=>hb b ((List.mem_append.1 h).elim (λh=>List.mem_append.2 (.inr h)) (λh=>List.mem_append.2 (.inl h)))),hxk,by show xk≤9223372036854775807; omega⟩),by rw [Fx,hh1.2.1]; rfl,by rw [List.length_append,hh1.2.2]; rfl⟩) ac9 (λw hw=>St.pick4 (pre:=[(g0,79,(Ag R NR cR bm).toArray),(g1,23,(sd.map bv).toArray),(g2,31,zS33.toArray),(gF,51,(Ai r0 NR)),(g3,31,(AZ (List.replicate 32 (0:UInt8)) (pA gF) NR NR).toArray),(g6,44,(Aq (((at_ k1):Nat):Int) (sx k1)).toArray),(q7,174,((sgX bm sd k1).map bv).toArray),(g7,24,#[.slice xA 33 xk])]) (M:=[(g0,79,(Ag R NR cR bm).toArray),(g1,23,(sd.map bv).toArray),(g2,31,zS33.toArray),(gF,51,(Ai r0 NR)),(g3,31,(AZ (List.replicate 32 (0:UInt8)) (pA gF) NR NR).toArray)]) (N:=[(q7,174,((sgX bm sd k1).map bv).toArray)]) [0,1,2,3,4,6] dZ kR hw)
end Cu
end
section
namespace Sy
open Go.RowKit Go.ChangeShapes Go.WideShapes Go.MapKept Go.ChangeMaps Go.WideElems
open Go.WideMaps (KeyLaw ArrKey)
section
variable {P:Program} {w0:Base} {n:Nat} {Q:Exit→Act→World→Prop} {F:AM} {L:AD} {ops:Array Oper} {o:Oper} {l:List Oper} {ex:Nat→Bool} {fuel:Nat} {listed:Array Bool}
end
section
variable {P:Program} {t k e:TypeId} {es:Array MapEntry} {clock:Nat} {ks:List Value}
open Classical in
end
end Sy
end
section
namespace Cu
open Go.RowKit Sy Go.ChangeShapes Go.WideShapes Go.MapKept Go.ChangeMaps Go.WideElems
open Go.WideMaps (KeyLaw ArrKey)
section
variable {m:List UInt8} {T:Int} {N M:Nat} {K:Nat→List UInt8} {Z:Nat→Int} {S:Nat→List UInt8}
end
end Cu
end
section
namespace Cu
open Go.RowKit Sy
end Cu
end
section
namespace Cu
open Go.RowKit Sy
end Cu
end
section
namespace Cu
open Go.RowKit Sy
section
variable {x:Nat→Nat} {m:List UInt8}
end
section
variable {l:List (List UInt8×List UInt8)} {m:List UInt8}
theorem F3 {w:World} {s n:Nat} {A:Option Addr} {e e':Nat→List Value} (h:Lst w s A n e) (he:∀ i,i<n→e i=e' i):Lst w s A n e':=by
 obtain ⟨g,o,h⟩:=h
 refine ⟨g,o,λhn=>?_⟩
 obtain ⟨h1,h2,h3⟩:=h hn
 exact ⟨h1,h2,λj hj=>by rw [← he j hj]; exact h3 j hj⟩
end
end Cu
end
section
namespace Cu
open Go.RowKit Sy
noncomputable def RP:TypeInfo:=(Tryz.prog.info? 3).getD default
theorem OE:Tryz.prog.info? 3=some RP:=kZ
theorem N3 (z:Int):∀ u∈[Value.int .i64 z],u.oneCell'=true:=λu hu=>by rw [List.mem_singleton.1 hu]; rfl
def szR (n:Nat→Nat) (k:Nat):List (List Value):=(List.range k).map λi=>[iZ (n i)]
theorem IG (n:Nat→Nat) (k:Nat):(szR n k).length=k:=by simp [szR]
theorem NC (n:Nat→Nat) (k:Nat):szR n (k+1)=szR n k++[[iZ (n k)]]:=by
 unfold szR
 rw [List.range_succ,List.map_append]
 rfl
theorem O5 {n:Nat→Nat} {k i:Nat} (hi:i<k):(szR n k).getD i []=[iZ (n i)]:=by
 unfold szR
 rw [List.getD_eq_getElem?_getD,List.getElem?_map,List.getElem?_range hi]
 rfl
def De (NR:Nat) (n:Nat→Nat) (X Y:Nat→Nat→Nat) (I:Nat→Nat→Bool):Bool:=szB NR n && !(List.range NR).any (Fg n X Y I)
theorem EW (w:World) (R:Option Addr) (NR cR:Nat) (a:Nat→Option Addr) (n c:Nat→Nat) (X Y:Nat→Nat→Nat) (I:Nat→Nat→Bool) (hX:∀ i k,X i k<K4) (hY:∀ i k,Y i k<K4) (hNR:NR≤4611686018427387904) (hn:∀ i,n i≤4611686018427387904) (hlr:Lst w 1 R NR (λi=>[.slice (a i) (n i) (c i)])) (hlk:∀ i,i<NR→Lst w 9 (a i) (n i) (λk=>pml (X i k) (Y i k) (I i k))) (hN9:NR≤17592186044416):Calls Tryz.prog 36 #[.slice R NR cR] w (Gets w (.bool (De NR n X Y I))):=by
 have hlr0:=hlr
 obtain ⟨gR,oR,hR⟩:=hlr
 refine Sy.enter (args:=[.slice R NR cR]) Tryz.func36 U kL<|sC<|sP (.bool false)<|sA<|sP (.slice none 0 0)<|sG<|Sy.seq<|sC<|sP (.slice R NR cR)<|sP (iZ NR)<|sP (.int .i64 0)<|sG<|Sy.block<|Sy.loopT (Y:=Slc) NR (λk1 y1=>[(0,.slice R NR cR),(3,y1.v),(6,.slice R NR cR),(7,iZ NR),(8,iZ k1)]) (λk1 y1=>[]++(y1.bl++[])) (λk1 y1=>y1.Is 3 1 (szR n k1)) ⟨.slice none 0 0,[]⟩ (Slc.Is.nil _ _) ac5 (λw hw=>hw) (λk1 y1 hk1 hh1=>?_)
 refine sC ?_
 obtain ⟨b1,hb1⟩:=xE (decide (k1<NR))
 refine sS (.bool b1) (qls U U U hb1)<|sG<|Sy.seq ?_
 cases b1
 ·have lb1:=dN hb1
  refine sU<|Sy.exit<|Sy.then_exit<|Sy.then_exit ?_
  obtain rfl:NR=k1:=om
  refine Sy.in_exit<|sB<|sP (y1.v) ?_
  obtain ⟨b2,hb2⟩:=xE (szB NR n)
  refine sS (.bool b2) (qG 90 #[y1.v] (λw hw=>by obtain ⟨A,c2,hv,_,_,hl⟩:=hh1.out; rw [IG] at hv hl; rw [hv,hb2]; exact KG w A NR c2 n hNR (F3 (hl hw (λb hb=>List.mem_append.2 (.inr (List.mem_append.2 (.inl hb))))) (λi hi=>O5 hi))))<|sP (.bool b2) ?_
  cases b2
  ·refine sN<|sN<|sN ?_
   refine sP (.bool false)<|sP (.bool false)<|sG<|Sy.ret ?_
   rw [show (.bool (De NR n X Y I):Value)=.bool false from by unfold De; rw [← hb2]; rfl]
   exact rV (.bool false) rfl
  ·refine sP (.slice R NR cR) ?_
   obtain ⟨b3,hb3⟩:=xE ((List.range NR).any (Fg n X Y I))
   refine sS (.bool b3) (Quiet.callS 91 #[.slice R NR cR,.func (.func 92) #[] #[]] kF (λw hw=>by rw [hb3]; exact QD w R NR cR a n c X Y I hX hY hNR hn (hlr0.below hw.below) (λi hi=>(hlk i hi).below hw.below))) ?_
   cases b3
   ·refine sP (.bool true)<|sP (.bool true)<|sP (.bool true) ?_
    refine sG<|Sy.ret ?_
    rw [show (.bool (De NR n X Y I):Value)=.bool true from by unfold De; rw [← hb2, ← hb3]; rfl]
    exact rV (.bool true) rfl
   ·refine sP (.bool false)<|sP (.bool false)<|sP (.bool false) ?_
    refine sG<|Sy.ret ?_
    rw [show (.bool (De NR n X Y I):Value)=.bool false from by unfold De; rw [← hb2, ← hb3]; rfl]
    exact rV (.bool false) rfl
 ·have lb1:=dY hb1
  refine sT<|Sy.skip<|Sy.then_<|Sy.seq<|Sy.block<|sC<|sS (.pointer (some ⟨gR,oR+k1*1,none⟩)) (Quiet.pure (AJ 25 _ _ _ R gR oR NR cR k1 1 .i64 (hR om).1 U U U Bl kF om))<|sS (.slice (a k1) (n k1) (c k1)) (Quiet.thereOne gR (oR+k1*1) 45 _ _ U kR (hR om).2.1 _ (AV ((hR om).2.2 k1 om) 0 U) CJ U)<|sP (.slice (a k1) (n k1) (c k1))<|sG<|Sy.region<|sP (y1.v)<|sP (.slice (a k1) (n k1) (c k1))<|sP (iZ ((n k1)))<|Sy.make kR 3 #[iZ ((n k1))] (λg=>.slice (pA g) 1 1) kF (λg0=>?_)
  refine Sy.movT<|Sy.appendR kR 131 3 _ _ 1 8 JE OE U U U U dZ _ _ U hh1 kR [iZ ((n k1))] rfl (N3 _) 0 g0 3 kR kR (by rw [IG]; omega) (by rw [IG]; simp only [maxLen]; omega) (λr1 hr1=>?_)
  refine sP (r1.v)<|Sy.nil<|Sy.in_<|Sy.then_<|Sy.region<|sS (iZ (k1+1)) (qad U U U)<|sP (iZ (k1+1))<|Sy.nil ?_
  exact Sy.againT r1 om (by rw [NC]; exact hr1) ac5 (λw hw=>hw.pick [] dZ kR)
end Cu
end
section
namespace Cu
open Go.RowKit Sy
theorem D1 {NR:Nat} {nk:Nat→Nat} {X Y:Nat→Nat→Nat} {I:Nat→Nat→Bool} (h:true=De NR nk X Y I):NR≤32∧(∀ i,i<NR→nk i≤64)∧(∀ i,i<NR→1≤nk i)∧1≤NR:=by
 unfold De at h
 have q:=(LQ NR nk).1 (Bool.and_eq_true_iff.1 h.symm).1
 exact ⟨q.2.1,λi hi=>(q.2.2 i hi).2,λi hi=>(q.2.2 i hi).1,q.1⟩
theorem Hx {At:Nat→Int} {sx:Nat→Nat} {nk:Nat→Nat} {X Y:Nat→Nat→Nat} {I:Nat→Nat→Bool} {NS NR:Nat} (h:true=DV At sx nk X Y I NS NR):NS=NR∧∀ i,i<NR→At i=(((At i).toNat:Nat):Int)∧(At i).toNat<nk i∧Bc (sx i) (X i (At i).toNat) (Y i (At i).toNat) (I i (At i).toNat)=true:=by
 unfold DV at h
 obtain ⟨h1,h2⟩:=Bool.and_eq_true_iff.1 h.symm
 refine ⟨of_decide_eq_true h1,λi hi=>?_⟩
 have q:=List.all_eq_true.1 h2 i (List.mem_range.2 hi)
 unfold Ff at q
 rw [Bool.and_eq_true,Bool.and_eq_true,decide_eq_true_iff,decide_eq_true_iff] at q
 exact ⟨by omega,by omega,q.2.2⟩
def vfB (m:List UInt8) (NR:Nat) (nk:Nat→Nat) (X Y:Nat→Nat→Nat) (I:Nat→Nat→Bool) (s:Nat→Nat→Nat) (d:List UInt8) (NW:Nat) (sn:Nat→Nat):Bool:=De NR nk X Y I && chB s (rgM m NR nk X Y I) X Y I d NW NR sn nk
theorem ChR.tup {b:Bool} {f:Nat→Nat→List Value} {nk:Nat→Nat} {NR:Nat} {v:Value} {M:AD} (h:ChR b f nk NR v M):∃ u,v=.tuple #[u,.bool b]:=by
 rcases h with ⟨rfl,rfl,_⟩ | ⟨rfl,u,rfl,_⟩ <;> exact ⟨_,rfl⟩
def SgnR (br bf:Bool) (d:List UInt8) (f:Nat→Nat→List Value) (nk:Nat→Nat) (NR:Nat) (v:Value) (M:AD):Prop :=
 (br=false∧v=.tuple #[A4 (List.replicate 32 0) none 0 0,.int .i64 80]∧M=[])∨(br=true∧bf=false∧v=.tuple #[A4 (List.replicate 32 0) none 0 0,.int .i64 81]∧M=[])∨(br=true∧bf=true∧∃ u,v=.tuple #[u,.int .i64 0]∧I5 d f nk NR u M)
theorem Fc (w:World) (A:Option Addr) (m:List UInt8) (n c:Nat) (hm:m.length=n) (hm9:n≤999000000) (hc:n≤c) (hc2:c≤9223372036854775807) (hs0:Sh.Src w A m) (R:Option Addr) (NR cR:Nat) (a:Nat→Option Addr) (nk ck:Nat→Nat) (X Y:Nat→Nat→Nat) (I:Nat→Nat→Bool) (hX:∀ i k,X i k<K4) (hY:∀ i k,Y i k<K4) (hNR:NR≤4611686018427387904) (hnk:∀ i,nk i≤4611686018427387904) (hlr:Lst w 1 R NR (λi=>[.slice (a i) (nk i) (ck i)])) (hlk:∀ i,i<NR→Lst w 9 (a i) (nk i) (λk=>pml (X i k) (Y i k) (I i k))) (hN9:NR≤17592186044416) (d:List UInt8) (hd:d.length=32) (W:Option Addr) (NW cW:Nat) (sa:Nat→Option Addr) (sn sc:Nat→Nat) (s:Nat→Nat→Nat) (hsc:∀ i k,s i k<K4) (hNW:NW≤4611686018427387904) (hsn9:∀ i,i<NW→sn i≤4611686018427387904) (hlw:Lst w 1 W NW (λi=>[.slice (sa i) (sn i) (sc i)])) (hls:∀ i,i<NW→Lst w 4 (sa i) (sn i) (λk=>fws (s i k))) (ht:Sh.TabAt w 1):Calls Tryz.prog 12 #[.slice A n c,.slice R NR cR,A4 d W NW cW] w (Gets w (.bool (vfB m NR nk X Y I s d NW sn))):=by
 have hlr0:=hlr
 obtain ⟨gR,oR,hR⟩:=hlr
 refine Sy.enter (args:=[.slice A n c,.slice R NR cR,A4 d W NW cW]) Tryz.func12 U kL<|sC<|sM 31 (AZ d W NW cW).toArray (λg0=>?_)
 refine sP (.bool false)<|sG<|Sy.seq<|sC<|sP (.slice R NR cR) ?_
 obtain ⟨b1,hb1⟩:=xE (De NR nk X Y I)
 refine sS (.bool b1) (qG 36 #[.slice R NR cR] (λw hw=>by rw [hb1]; exact EW w R NR cR a nk ck X Y I hX hY hNR hnk (hlr0.below hw.below) (λi hi=>(hlk i hi).below hw.below) hN9)) ?_
 cases b1
 ·refine sP (.bool true) ?_
  refine sG<|sT<|sC<|sP (.bool false)<|sG<|Sy.ret<|Sy.then_ret ?_
  rw [show (.bool (vfB m NR nk X Y I s d NW sn):Value)=.bool false from by unfold vfB; rw [← hb1]; rfl]
  exact rV (.bool false) rfl
 ·obtain ⟨hN32,hn64,hn1,hN1⟩:=D1 hb1
  refine sP (.bool false)<|sG<|sU<|Sy.skip<|sR (λj=>false) ?_
  refine sZ 0 U (.slice A n c)<|sZ 1 U (.slice R NR cR) ?_
  obtain ⟨bM,hbM⟩:=xE (rgM m NR nk X Y I)
  have hbl:bM.length=32:=by rw [hbM]; exact D2 _ _ _ _ _ _
  refine sD 2 U (Aw R NR cR bM) (qG 38 #[.slice A n c,.slice R NR cR] (λw hw=>by rw [hbM]; exact Gs w R NR cR a nk ck X Y I hX hY hNR hnk (hlr0.below hw.below) (λi hi=>(hlk i hi).below hw.below) hN32 hn64 A m n c hm hm9 hc hc2 (hs0.below hw.below) (ht.below hw.below ht.lt)))<|sD 3 U (A4 d W NW cW) (Quiet.load 0 g0 0 33 31 31 (AZ d W NW cW).toArray _ _ U kR kR Gz U kR _ (C_ hd) (E7 hd)) ?_
  obtain ⟨b2,hb2⟩:=xE (chB s bM X Y I d NW NR sn nk)
  refine Sy.callND 4 U kR kR 40 #[Aw R NR cR bM,A4 d W NW cW] kF (ChR b2 (eF s bM X Y I d) nk NR) (λw hw=>by rw [hb2]; exact Dc w R NR cR a nk ck X Y I hX hY hNR hnk (hlr0.below hw.below) (λi hi=>(hlk i hi).below hw.below) hN32 hn64 hn1 bM hbl d hd W NW cW sa sn sc s hsc hNW hsn9 (hlw.below hw.below) (λi hi=>(hls i hi).below hw.below) (ht.below hw.below ht.lt)) (λvq Mq hR0=>?_)
  obtain ⟨u,rfl⟩:=hR0.tup
  refine sZ 5 U (.tuple #[u,.bool b2])<|sZ 6 U (u)<|sZ 7 U (.bool b2)<|sZ 8 U (u)<|sZ 9 U (.bool b2)<|sE<|sB<|sP (.bool b2)<|sP (.bool b2)<|sG<|Sy.ret ?_
  rw [show (.bool (vfB m NR nk X Y I s d NW sn):Value)=.bool b2 from by unfold vfB; rw [← hb1, ← hbM, ← hb2]; rfl]
  exact rV (.bool b2) rfl
theorem H_ (w:World) (sd:List UInt8) (hsd:sd.length=32) (A:Option Addr) (m:List UInt8) (n c:Nat) (hm:m.length=n) (hm9:n≤999000000) (hc:n≤c) (hc2:c≤9223372036854775807) (hs0:Sh.Src w A m) (R:Option Addr) (NR cR:Nat) (a:Nat→Option Addr) (nk ck:Nat→Nat) (X Y:Nat→Nat→Nat) (I:Nat→Nat→Bool) (hX:∀ i k,X i k<K4) (hY:∀ i k,Y i k<K4) (hNR:NR≤4611686018427387904) (hnk:∀ i,nk i≤4611686018427387904) (hlr:Lst w 1 R NR (λi=>[.slice (a i) (nk i) (ck i)])) (hlk:∀ i,i<NR→Lst w 9 (a i) (nk i) (λk=>pml (X i k) (Y i k) (I i k))) (hN9:NR≤17592186044416) (S:Option Addr) (NS cS:Nat) (At:Nat→Int) (sx:Nat→Nat) (hsx:∀ i,sx i<K4) (hNS:NS≤4611686018427387904) (hls:Lst w 5 S NS (λi=>Aq (At i) (sx i))) (ht:Sh.TabAt w 1):Calls Tryz.prog 10 #[.agg (sd.map bv).toArray,.slice A n c,.slice R NR cR,.slice S NS cS] w (GetsN w (SgnR (De NR nk X Y I) (DV At sx nk X Y I NS NR) (sgD (rgM m NR nk X Y I) sd X Y I (λi=>(At i).toNat) nk NR) (sgF (rgM m NR nk X Y I) sd X Y I (λi=>(At i).toNat) sx (sgD (rgM m NR nk X Y I) sd X Y I (λi=>(At i).toNat) nk NR)) nk NR)):=by
 have hls0:=hls
 obtain ⟨gS,oS,hS⟩:=hls
 have hlr0:=hlr
 obtain ⟨gR,oR,hR⟩:=hlr
 refine Sy.enter (args:=[.agg (sd.map bv).toArray,.slice A n c,.slice R NR cR,.slice S NS cS]) Tryz.func10 U kL<|sC<|sM 23 (sd.map bv).toArray (λg0=>?_)
 refine sM 31 zS33.toArray (λg1=>?_)
 refine sP (.int .i64 0)<|sG<|Sy.seq<|sC<|sP (.slice R NR cR) ?_
 obtain ⟨b1,hb1⟩:=xE (De NR nk X Y I)
 refine sS (.bool b1) (qG 36 #[.slice R NR cR] (λw hw=>by rw [hb1]; exact EW w R NR cR a nk ck X Y I hX hY hNR hnk (hlr0.below hw.below) (λi hi=>(hlk i hi).below hw.below) hN9)) ?_
 cases b1
 ·refine sP (.bool true) ?_
  refine sG<|sT<|sC<|sP (A4 (List.replicate 32 (0:UInt8)) none 0 0)<|sW 1 g1 31 zS33.toArray zS33.toArray (Writes.row 31 zS33 33 _ _ U kR kR kR (BD List.length_replicate) (by rw [List.size_toArray,BD List.length_replicate]) EU)<|sP (.int .i64 80)<|sG<|Sy.ret<|Sy.then_ret ?_
  exact CA [] rfl (v:=A4 (List.replicate 32 (0:UInt8)) none 0 0) (u:=.int .i64 80) (.inl (Res.cell (ty':=31) g1 1 zS33.toArray _ kR kR Gz U (by rw [List.size_toArray,BD List.length_replicate]; kernel_rfl) rfl)) (.inl (show _=_ by kernel_rfl)) (λ_ hw=>hw.none) (.inl ⟨hb1.symm,rfl,rfl⟩)
 ·obtain ⟨hN32,hn64,hn1,hN1⟩:=D1 hb1
  refine sP (.bool false)<|sG<|sU<|Sy.skip<|Sy.then_<|Sy.seq<|sC<|sP (.slice S NS cS)<|sP (.slice R NR cR) ?_
  obtain ⟨b2,hb2⟩:=xE (DV At sx nk X Y I NS NR)
  refine sS (.bool b2) (qG 37 #[.slice S NS cS,.slice R NR cR] (λw hw=>by rw [hb2]; exact P2 w S NS cS At sx hsx hNS (hls0.below hw.below) R NR cR a nk ck X Y I hX hY hNR hnk (hlr0.below hw.below) (λi hi=>(hlk i hi).below hw.below))) ?_
  cases b2
  ·refine sP (.bool true) ?_
   refine sG<|sT<|sC<|sP (A4 (List.replicate 32 (0:UInt8)) none 0 0)<|sW 1 g1 31 zS33.toArray zS33.toArray (Writes.row 31 zS33 33 _ _ U kR kR kR (BD List.length_replicate) (by rw [List.size_toArray,BD List.length_replicate]) EU)<|sP (.int .i64 81)<|sG<|Sy.ret<|Sy.then_ret ?_
   exact CA [] rfl (v:=A4 (List.replicate 32 (0:UInt8)) none 0 0) (u:=.int .i64 81) (.inl (Res.cell (ty':=31) g1 1 zS33.toArray _ kR kR Gz U (by rw [List.size_toArray,BD List.length_replicate]; kernel_rfl) rfl)) (.inl (show _=_ by kernel_rfl)) (λ_ hw=>hw.none) (.inr (.inl ⟨hb1.symm,hb2.symm,rfl,rfl⟩))
  ·obtain ⟨hNE,hfp⟩:=Hx hb2
   obtain rfl:NR=NS:=hNE.symm
   refine sP (.bool false)<|sG<|sU<|Sy.skip<|sR (λj=>j == 6) ?_
   refine sZ 0 U (.slice A n c)<|sZ 1 U (.slice R NR cR) ?_
   obtain ⟨bM,hbM⟩:=xE (rgM m NR nk X Y I)
   have hbl:bM.length=32:=by rw [hbM]; exact D2 _ _ _ _ _ _
   refine sD 2 U (Aw R NR cR bM) (qG 38 #[.slice A n c,.slice R NR cR] (λw hw=>by rw [hbM]; exact Gs w R NR cR a nk ck X Y I hX hY hNR hnk (hlr0.below hw.below) (λi hi=>(hlk i hi).below hw.below) hN32 hn64 A m n c hm hm9 hc hc2 (hs0.below hw.below) (ht.below hw.below ht.lt)))<|sD 3 U (.agg (sd.map bv).toArray) (Quiet.load 0 g0 0 32 23 23 (sd.map bv).toArray _ _ U kR kR C8 U kR _ (BK sd hsd) (Bj sd hsd))<|sZ 4 U (.slice S NR cS) ?_
   obtain ⟨d0,hd0⟩:=xE ((sgD bM sd X Y I (λi=>(At i).toNat) nk NR))
   have hdl:d0.length=32:=by rw [hd0]; exact Fm _
   refine Sy.callND 5 U kR kR 39 #[Aw R NR cR bM,.agg (sd.map bv).toArray,.slice S NR cS] kF (I5 d0 (sgF bM sd X Y I (λi=>(At i).toNat) sx d0) nk NR) (λw hw=>by rw [hd0]; exact MG w R NR cR a nk ck X Y I hX hY hNR hnk (hlr0.below hw.below) (λi hi=>(hlk i hi).below hw.below) hN32 hn64 hn1 bM hbl sd hsd S cS (λi=>(At i).toNat) sx hsx (F3 (hls0.below hw.below) (λi hi=>by rw [← (hfp i hi).1])) (λi hi=>(hfp i hi).2.1) (ht.below hw.below ht.lt)) (λvq Mq hR0=>?_)
   obtain ⟨gF,r0,rfl,rfl,hr0⟩:=hR0
   refine Sy.permD (M:=[(g0,23,(sd.map bv).toArray),(g1,31,zS33.toArray),(gF,51,(Ai r0 NR))]++(BJ r0 NR++[])) (by rw [List.append_nil]; exact List.Perm.refl _)<|sX 6 U 1 g1 31 zS33.toArray (AZ d0 (pA gF) NR NR).toArray (Writes.row 31 (AZ d0 (pA gF) NR NR) 33 _ _ U kR kR kR (BD hdl) (by rw [List.size_toArray,BD List.length_replicate]) EU)<|Sy.setTD<|Sy.anyOf [7] kR dZ (Sy.each1 ?_)
   refine Sy.oneQuiet U kR (.int .i64 0) qP<|sI<|Sy.ret ?_
   exact CA ((gF,51,Ai r0 NR)::BJ r0 NR) rfl (v:=A4 d0 (pA gF) NR NR) (u:=.int .i64 0) (.inl (Res.cell (ty':=31) g1 1 (AZ d0 (pA gF) NR NR).toArray _ kR kR Gz U (by rw [List.size_toArray,BD hdl]; kernel_rfl) rfl)) (.inl (show _=_ by kernel_rfl)) (λw hw=>by simpa using St.pick (pre:=[(g0,23,(sd.map bv).toArray),(g1,31,(AZ d0 (pA gF) NR NR).toArray),(gF,51,(Ai r0 NR))]) (M:=[(gF,51,Ai r0 NR)]) [2] dZ kR hw) (.inr (.inr ⟨hb1.symm,hb2.symm,_,rfl,gF,r0,by rw [hd0,hbM],rfl,by rw [hd0,hbM] at hr0; exact hr0⟩))
end Cu
end
section
namespace Cu
open Go.RowKit Sy
theorem JQ (w:World) (nm:ByteArray) (hnm:nm.size≤1000000000) (T:Option Addr) (ts:List Sh.Tx) (n ct:Nat) (hn:ts.length=n) (hn2:n≤1000000000) (hT:Sh.Texts w T ts) (htr:Sh.TabAt w 0) (hm:(Sh.cat ts).length≤1000000000):Calls Tryz.prog 59 #[.string nm,.slice T n ct] w (Gets w (fv (Ar (Sh.taggedS nm.data.toList (Sh.cat ts))%Sc.pM))):=by
 refine Sy.enter (args:=[.string nm,.slice T n ct]) Tryz.func59 U kL<|sC<|sM 42 (fcs 0) (λg0=>?_)
 refine sA<|sP (.string nm)<|sP (.slice T n ct) ?_
 obtain ⟨dT,hdT⟩:=xE (Sh.taggedS nm.data.toList (Sh.cat ts))
 have hdl:dT.length=32:=by rw [hdT]; exact B8 _ _
 refine sS (.agg (dT.map bv).toArray) (qG 44 #[.string nm,.slice T n ct] (λw hw=>by rw [hdT]; subst hn; exact Sh.taggedR_any w nm T ts ct (hT.below hw.below) (htr.below hw.below htr.lt) hnm hm hn2))<|sS (fv (Ar dT%Sc.pM)) (qF 66 #[.agg (dT.map bv).toArray] (λw=>PA w dT hdl))<|sW 0 g0 42 (fcs 0) (fcs (Ar dT%Sc.pM)) (wS 0 42 (fcs (Ar dT%Sc.pM)) U)<|sG<|Sy.ret ?_
 rw [show (fv (Ar (Sh.taggedS nm.data.toList (Sh.cat ts))%Sc.pM):Value)=fv (Ar dT%Sc.pM) from by rw [hdT]]
 exact rC (v:=fv (Ar dT%Sc.pM)) 42 g0 0 (fcs (Ar dT%Sc.pM)) U Ab
theorem Nf {w:World} {nm:ByteArray} (hnm:nm.size≤1000000000) {g g3:Nat} {t t3:TypeId} {a b:Sh.Tx} {av bv':Value} (ha:a.val=av) (hb:b.val=bv') (hao:a.ok w) (hbo:b.ok w) {l:List UInt8} {k:Nat} (hk:l.length=k) (hk2:k≤60) (h3:Blk w g3 t3 (l.map bv).toArray) (h:Blk w g t #[av,bv',.slice (pA g3) k k]) (hl:a.l.length+b.l.length≤999999900) (ht:Sh.TabAt w 0) :
  Calls Tryz.prog 59 #[.string nm,.slice (pA g) 3 3] w (Gets w (fv (Ar (Sh.taggedS nm.data.toList (a.l++b.l++l))%Sc.pM))):=by
 subst ha hb hk
 have e:Sh.cat [a,b,⟨some ⟨g3,0,none⟩,l,l.length⟩]=a.l++b.l++l:=by simp [Sh.cat]
 have q:=JQ w nm hnm (pA g) [a,b,⟨some ⟨g3,0,none⟩,l,l.length⟩] 3 3 U dZ (E5 (by
  rw [List.map_cons,List.map_cons,List.map_cons,List.map_nil]
  exact h) (ok3 hao hbo ⟨Sh.Src.of_blk h3,Nat.le_refl _,by show l.length≤_; omega⟩)) ht (by rw [e,List.length_append,List.length_append]; omega)
 rw [e] at q
 exact q
def I6 (P:Pt) (v:Value) (M:AD):Prop:=∃ (g:Nat) (sp:List Value) (cap:Nat),v=.slice (pA g) 33 cap∧(33≤cap∧cap≤9223372036854775807)∧M=[(g,5,((A3 P).map bv++sp).toArray)]
theorem PY {w:World} {g:Nat} {t:TypeId} {l:List UInt8} {sp:List Value} {c n:Nat} (hb:Blk w g t (l.map bv++sp).toArray) (hl:l.length=n) (hc:n≤c∧c≤9223372036854775807):(Sh.Tx.mk (pA g) l c).ok w:=⟨Fl hb,by show l.length≤c; omega,hc.2⟩
theorem MF (w:World) (MA:Option Addr) (bm:List UInt8) (mc:Nat) (hbm:bm.length=32) (hmc:32≤mc) (hmc2:mc≤9223372036854775807) (hms:Sh.Src w MA bm) (A:Option Addr) (x:List UInt8) (n c:Nat) (hx:x.length=n) (hm:n≤999000000) (hc:n≤c) (hc2:c≤9223372036854775807) (hs0:Sh.Src w A x) (i j:Nat) (hi:i<256) (hj:j<256) (htr:Sh.TabAt w 0):Calls Tryz.prog 57 #[.slice MA 32 mc,.slice A n c,iZ i,iZ j] w (Gets w (fv (rgC bm x i j))):=by
 refine Sy.enter (args:=[.slice MA 32 mc,.slice A n c,iZ i,iZ j]) Tryz.func57 U kL<|sC<|sM 42 (fcs 0) (λg0=>?_)
 refine sA<|sP (.slice MA 32 mc)<|sP (.slice A n c)<|sP (iZ i)<|sS (bv (UInt8.ofNat i)) (Quiet.pure (λw=>CF w _ _ _ i om U U))<|sP (iZ j)<|sS (bv (UInt8.ofNat j)) (Quiet.pure (λw=>CF w _ _ _ j om U U))<|Sy.make kR 5 #[bv (UInt8.ofNat i),bv (UInt8.ofNat j)] (λg=>.slice (pA g) 2 2) kF (λg1=>?_)
 refine Sy.make kR 24 #[.slice MA 32 mc,.slice A n c,.slice (pA g1) 2 2] (λg=>.slice (pA g) 3 3) kF (λg2=>?_)
 refine sS (fv (rgC bm x i j)) (qG 59 #[.string rgStep,.slice (pA g2) 3 3] (λw hw=>Nf (nm:=rgStep) (a:=⟨MA,bm,mc⟩) (b:=⟨A,x,c⟩) (l:=[(UInt8.ofNat i),(UInt8.ofNat j)]) (k:=2) dZ (by unfold Sh.Tx.val; rw [hbm]) (by unfold Sh.Tx.val; rw [hx]) (⟨hms.below hw.below,by show bm.length≤mc; omega,hmc2⟩) (⟨hs0.below hw.below,by show x.length≤c; omega,hc2⟩) U dZ (hw.get (i:=1) rfl) (hw.get (i:=2) rfl) (by show bm.length+x.length≤999999900; omega) (htr.below hw.below htr.lt)))<|sW 0 g0 42 (fcs 0) (fcs (rgC bm x i j)) (wS 0 42 (fcs (rgC bm x i j)) U)<|sG<|Sy.ret ?_
 rw [show (fv (rgC bm x i j):Value)=fv (rgC bm x i j) from rfl]
 exact rC (v:=fv (rgC bm x i j)) 42 g0 0 (fcs (rgC bm x i j)) U Ab
theorem Ms (w:World) (sd:List UInt8) (hsd:sd.length=32) (MA:Option Addr) (bm:List UInt8) (mc:Nat) (hbm:bm.length=32) (hmc:32≤mc) (hmc2:mc≤9223372036854775807) (hms:Sh.Src w MA bm) (i j:Nat) (hi:i<256) (hj:j<256) (htr:Sh.TabAt w 0):Calls Tryz.prog 18 #[.agg (sd.map bv).toArray,.slice MA 32 mc,iZ i,iZ j] w (Gets w (fv (rgF bm sd i j))):=by
 refine Sy.enter (args:=[.agg (sd.map bv).toArray,.slice MA 32 mc,iZ i,iZ j]) Tryz.func18 U kL<|sC<|sM 23 (sd.map bv).toArray (λg0=>?_)
 refine sM 42 (fcs 0) (λg1=>?_)
 refine sA<|sS (.agg (sd.map bv).toArray) (Quiet.load 0 g0 0 32 23 23 (sd.map bv).toArray _ _ U kR kR C8 U kR _ (BK sd hsd) (Bj sd hsd))<|Sy.callN kR 43 #[.agg (sd.map bv).toArray] kF ((λvq Mq=>∃ (g:Nat) (sp:List Value) (cap:Nat),vq=.slice (pA g) 32 cap∧(32≤cap∧cap≤9223372036854775807)∧Mq=[(g,5,(sd.map bv++sp).toArray)])) (λw hw=>Dy w sd hsd) (λvq Mq hR0=>?_)
 obtain ⟨qx,spx,cpx,rfl,hcx,rfl⟩:=hR0
 refine sP (.slice MA 32 mc)<|sP (iZ i)<|sS (bv (UInt8.ofNat i)) (Quiet.pure (λw=>CF w _ _ _ i om U U))<|sP (iZ j)<|sS (bv (UInt8.ofNat j)) (Quiet.pure (λw=>CF w _ _ _ j om U U))<|Sy.make kR 5 #[bv (UInt8.ofNat i),bv (UInt8.ofNat j)] (λg=>.slice (pA g) 2 2) kF (λg2=>?_)
 refine Sy.make kR 24 #[.slice (pA qx) 32 cpx,.slice MA 32 mc,.slice (pA g2) 2 2] (λg=>.slice (pA g) 3 3) kF (λg3=>?_)
 refine sS (fv (rgF bm sd i j)) (qG 59 #[.string rgFake,.slice (pA g3) 3 3] (λw hw=>Nf (nm:=rgFake) (a:=⟨some ⟨qx,0,none⟩,sd,cpx⟩) (b:=⟨MA,bm,mc⟩) (l:=[(UInt8.ofNat i),(UInt8.ofNat j)]) (k:=2) dZ (by unfold Sh.Tx.val; rw [hsd]) (by unfold Sh.Tx.val; rw [hbm]) (PY (hw.get (i:=2) rfl) hsd hcx) (⟨hms.below hw.below,by show bm.length≤mc; omega,hmc2⟩) U dZ (hw.get (i:=3) rfl) (hw.get (i:=4) rfl) (by show sd.length+bm.length≤999999900; omega) (htr.below hw.below htr.lt)))<|sW 1 g1 42 (fcs 0) (fcs (rgF bm sd i j)) (wS 0 42 (fcs (rgF bm sd i j)) U)<|sG<|Sy.ret ?_
 rw [show (fv (rgF bm sd i j):Value)=fv (rgF bm sd i j) from rfl]
 exact rC (v:=fv (rgF bm sd i j)) 42 g1 1 (fcs (rgF bm sd i j)) U Ab
theorem Mg (w:World) (s e px py:Nat) (pi:Bool) (hs:s<K4) (he:e<K4) (hpx:px<K4) (hpy:py<K4):Calls Tryz.prog 58 #[fv s,fv e,pv px py pi] w (GetsN w (I6 (rPt s e px py pi))):=by
 refine Sy.enter (args:=[fv s,fv e,pv px py pi]) Tryz.func58 U kL<|sC<|sM 42 (fcs s) (λg0=>?_)
 refine sM 42 (fcs e) (λg1=>?_)
 refine sM 48 (pcs px py pi) (λg2=>?_)
 refine sP (.slice none 0 0)<|sH (λj=>false) ?_
 refine sD 0 U (fv s) (qL 0 g0 0 4 42 42 (fcs s) rfl Ab)<|sD 1 U (pv (pX bP) (pY bP) (pI bP)) (qF 16 #[] (λw=>by rw [← B9]; exact Iz w)) ?_
 obtain ⟨R1,hR1⟩:∃ P:Pt,P=Ec.nm Ac (s%Sc.pM) bP:=⟨_,rfl⟩
 have oR1:Ec.On R1:=by rw [hR1]; exact bP_on.nm fld _
 refine sD 2 U (pv (pX R1) (pY R1) (pI R1)) (qF 15 #[fv s,pv (pX bP) (pY bP) (pI bP)] (Ih lP lP lP (B_ bP_on) hR1.symm))<|sD 3 U (fv e) (qL 1 g1 0 4 42 42 (fcs e) rfl Ab)<|sD 4 U (pv px py pi) (qL 2 g2 0 9 48 48 (pcs px py pi) rfl An) ?_
 obtain ⟨R2,hR2⟩:∃ P:Pt,P=Ec.nm Ac (e%Sc.pM) (dec px py pi):=⟨_,rfl⟩
 have oR2:Ec.On R2:=by rw [hR2]; exact (FM _ _ _).nm fld _
 refine sD 5 U (pv (pX R2) (pY R2) (pI R2)) (qF 15 #[fv e,pv px py pi] (Ih lP lP lP U hR2.symm)) ?_
 obtain ⟨R3,hR3⟩:∃ P:Pt,P=Ec.add Ac R1 R2:=⟨_,rfl⟩
 have oR3:Ec.On R3:=by rw [hR3]; exact Ec.On.add fld oR1 oR2
 refine sD 6 U (pv (pX R3) (pY R3) (pI R3)) (qF 68 #[pv (pX R1) (pY R1) (pI R1),pv (pX R2) (pY R2) (pI R2)] (QO lP lP lP lP (B_ oR1) (B_ oR2)  hR3.symm))<|Sy.callND 7 U kR kR 42 #[pv (pX R3) (pY R3) (pI R3)] kF ((I6 R3)) (λw hw=>by have q:=Jz w (pX R3) (pY R3) (pI R3) (Hq _) (Hp _); rw [(B_ oR3)] at q; exact q) (λvq Mq hR0=>?_)
 obtain ⟨q8,sp8,cp8,rfl,hc8,rfl⟩:=hR0
 refine sZ 8 U (.slice (pA q8) 33 cp8)<|sI<|Sy.ret ?_
 exact JV 3 (q8,5,((A3 R3).map bv++sp8).toArray) rfl (v:=.slice (pA q8) 33 cp8) (.inl (show _=_ by kernel_rfl)) kR ⟨_,sp8,cp8,rfl,hc8,by rw [hR3,hR2,hR1]; rfl⟩
end Cu
end
section
namespace Cu
open Go.RowKit Sy
section
variable {NR:Nat} {nk:Nat→Nat} {X Y:Nat→Nat→Nat} {I:Nat→Nat→Bool}
end
def A6 (l:List UInt8):List (List Value):=l.map λb=>[bv b]
theorem B4 (l:List UInt8):(A6 l).length=l.length:=List.length_map ..
theorem C2:∀ l:List UInt8,(A6 l).flatten=l.map bv
 | []=>rfl
 | b::l=>by
  show [bv b]++(A6 l).flatten=_
  rw [C2 l]
  rfl
theorem Ed (l:List UInt8):∀ y∈A6 l,y.length=1:=λy hy=>by obtain ⟨b,_,rfl⟩:=List.mem_map.1 hy; rfl
theorem Ds (l:List UInt8):∀ y∈A6 l, ∀ u∈y,u.oneCell'=true:=λy hy u hu=>by
 obtain ⟨b,_,rfl⟩:=List.mem_map.1 hy
 rw [List.mem_singleton.1 hu]
 rfl
theorem Ee (a b:List UInt8):A6 (a++b)=A6 a++A6 b:=List.map_append
theorem From.src {w0:Base} {L:AD} {A:Option Addr} {l:List UInt8} (hs:Sh.Src w0.world A l):From w0 L A (A6 l).flatten:=λw hw=>by
 rw [C2]
 by_cases h0:l=[]
 ·subst h0; exact .inl U
 ·obtain ⟨b,o,rfl,h2,h3⟩:=hs h0
  refine .inr ⟨_,rfl,λj u hj=>?_⟩
  rw [CG]
  rw [List.getElem?_map] at hj
  cases hx:l[j]? with
  | none=>rw [hx] at hj; cases hj
  | some x =>
   rw [hx] at hj
   injection hj with hj
   rw [← hj]
   exact (hw.below.cell (p:=⟨b,o+j,none⟩) h2).trans (h3 j x hx)
theorem From.own {w0:Base} {L:AD} {i g:Nat} {t:TypeId} {l:List UInt8} {sp:List Value} (hL:L[i]? = some (g,t,(l.map bv++sp).toArray)):From w0 L (pA g) (A6 l).flatten:=by
 rw [C2]
 refine From.blk hL ?_
 show ((l.map bv++sp).drop 0).take _=_
 rw [List.drop_zero,List.take_left' U]
theorem From.arr {w0:Base} {L:AD} {i g:Nat} {t:TypeId} {l:List UInt8} (hL:L[i]? = some (g,t,(l.map bv).toArray)):From w0 L (pA g) (A6 l).flatten:=by
 rw [C2]
 refine From.blk hL ?_
 show ((l.map bv).drop 0).take _=_
 rw [List.drop_zero,List.take_of_length_le (Nat.le_refl _)]
theorem Iw {g:Nat} {e:TypeId}:Slc.Is ⟨.slice (pA g) 0 0,[(g,e,#[])]⟩ e 1 (A6 []):=Slc.Is.mk' (cs:=[]) (by simp [A6]) (by simp [A6]) U U U (Nat.le_refl _) (Nat.zero_le _)
theorem O8 {w:World} {A:Option Addr} {n:Nat} {l:List UInt8} (hn:l.length=n) (h:Lst w 1 A n (λi=>(A6 l).getD i [])):Sh.Src w A l:=λhne=>by
 obtain ⟨g,o,q⟩:=h
 obtain ⟨q1,q2,q3⟩:=q (by rw [← hn]; exact List.length_pos_iff.2 hne)
 refine ⟨g,o,q1,q2,λj u hj=>?_⟩
 have hl:=(List.getElem?_eq_some_iff.1 hj).1
 have q4:w.rangeAt g (o+j*1) ((A6 l).getD j []):=q3 j om
 rw [List.getD_eq_getElem?_getD,show (A6 l)[j]? = some [bv u] from by unfold A6; rw [List.getElem?_map,hj]; rfl] at q4
 have q5:=AV q4 0 U
 rwa [Nat.mul_one,Nat.add_zero] at q5
theorem Qy {e:TypeId} {y:Slc} {l:List UInt8} (h:y.Is e 1 (A6 l)):∃ A c,y.v=.slice A l.length c∧l.length≤c∧c≤maxLen∧∀ {w0:Base} {w:World} {L:AD},St w0 w L→(∀ b∈y.bl,b∈L)→Sh.Src w A l:=by
 obtain ⟨A,c,h1,h2,h3,h4⟩:=h.out
 rw [B4] at h1 h2 h4
 exact ⟨A,c,h1,h2,h3,λhw hb=>O8 U (h4 hw hb)⟩
noncomputable def SH:TypeInfo:=(Tryz.prog.info? 5).getD default
theorem Ip:Tryz.prog.info? 5=some SH:=kZ
theorem RH (w:World) (A:Option Addr) (m:List UInt8) (n c:Nat) (hm:m.length=n) (hm9:n≤999000000) (hc:n≤c) (hc2:c≤9223372036854775807) (hs0:Sh.Src w A m) (R:Option Addr) (NR cR:Nat) (a:Nat→Option Addr) (nk ck:Nat→Nat) (X Y:Nat→Nat→Nat) (I:Nat→Nat→Bool) (hX:∀ i k,X i k<K4) (hY:∀ i k,Y i k<K4) (hNR:NR≤4611686018427387904) (hnk:∀ i,nk i≤4611686018427387904) (hlr:Lst w 1 R NR (λi=>[.slice (a i) (nk i) (ck i)])) (hlk:∀ i,i<NR→Lst w 9 (a i) (nk i) (λk=>pml (X i k) (Y i k) (I i k))) (hN32:NR≤32) (hn64:∀ i,i<NR→nk i≤64) (htr:Sh.TabAt w 0):Calls Tryz.prog 14 #[.slice A n c,.slice R NR cR] w (GetsN w ((λvq Mq=>∃ (g:Nat) (sp:List Value) (cap:Nat),vq=.slice (pA g) 32 cap∧(32≤cap∧cap≤9223372036854775807)∧Mq=[(g,5,((rgM m NR nk X Y I).map bv++sp).toArray)]))):=by
 have hlr0:=hlr
 obtain ⟨gR,oR,hR⟩:=hlr
 refine Sy.enter (args:=[.slice A n c,.slice R NR cR]) Tryz.func14 U kL<|sC<|sP (.slice none 0 0)<|sA<|Sy.make kR 5 #[] (λg=>.slice (pA g) 0 0) kF (λg0=>?_)
 refine sP (.slice A n c)<|Sy.permS (M:=[]++((⟨.slice (pA g0) 0 0,[(g0,5,#[])]⟩:Slc).bl++[])) (by exact List.Perm.refl _)<|Sy.appendM kR 24 5 _ _ 1 1 EQ Ip U U U U dZ _ _ U (ys:=A6 m) Iw kR (Ed _) (Ds _) A n c (by rw [B4]; exact hm) hc kR (λ_=>From.src hs0) (by simp [A6]; omega) (by simp [A6,maxLen]; omega) (λr1 hr1=>?_)
 refine sP (r1.v)<|sG<|Sy.seq<|sC<|sP (.int .i64 0)<|sG<|Sy.block<|Sy.loopT (Y:=Slc) NR (λk1 y1=>[(1,.slice R NR cR),(5,y1.v),(6,iZ k1)]) (λk1 y1=>[]++(y1.bl++[])) (λk1 y1=>y1.Is 5 1 (A6 (m++BQ nk X Y I k1))) r1 (by rw [show m++BQ nk X Y I 0=[]++m from List.append_nil m,Ee]; exact hr1) ac3 (λw hw=>hw) (λk1 y1 hk1 hh1=>?_)
 refine Sy.seq<|sC<|sP (iZ k1)<|sP (.slice R NR cR)<|sP (iZ NR) ?_
 obtain ⟨b1,hb1⟩:=xE (decide (k1<NR))
 refine sS (.bool b1) (qls U U U hb1)<|sG ?_
 cases b1
 ·have lb1:=dN hb1
  refine sU<|Sy.exit<|Sy.then_exit<|Sy.then_exit ?_
  obtain rfl:NR=k1:=om
  refine Sy.in_exit<|sB ?_
  obtain ⟨Ay,cy,hyv,hyc,hyc2,hys⟩:=Qy hh1
  refine sS (.slice Ay (m++BQ nk X Y I NR).length cy) (Quiet.pure (λw=>by rw [← hyv]; kernel_rfl))<|Sy.make kR 24 #[.slice Ay (m++BQ nk X Y I NR).length cy] (λg=>.slice (pA g) 1 1) kF (λg1=>?_)
  refine Sy.movT ?_
  obtain ⟨bM,hbM⟩:=xE (rgM m NR nk X Y I)
  have hbl:bM.length=32:=by rw [hbM]; exact D2 _ _ _ _ _ _
  refine sS (.agg (bM.map bv).toArray) (qG 44 #[.string rgRing,.slice (pA g1) 1 1] (λw hw=>by have hq:=B2 hn64 X Y I NR (Nat.le_refl _); have q:=Sh.taggedR_any w rgRing (pA g1) [⟨Ay,m++BQ nk X Y I NR,cy⟩] 1 (E5 (hw.get (i:=0) rfl) (λt ht=>by rw [List.mem_singleton.1 ht]; exact ⟨hys hw (λb hb=>List.mem_append.2 (.inr (List.mem_append.2 (.inl hb)))),hyc,by simp only [maxLen] at hyc2; exact hyc2⟩)) (htr.below hw.below htr.lt) dZ (by simp [Sh.cat]; omega) (by show 1≤1000000000; decide); rw [hbM]; rw [show Sh.cat [⟨Ay,m++BQ nk X Y I NR,cy⟩]=m++BQ nk X Y I NR by simp [Sh.cat]] at q; exact q))<|Sy.callN kR 43 #[.agg (bM.map bv).toArray] kF ((λvq Mq=>∃ (g:Nat) (sp:List Value) (cap:Nat),vq=.slice (pA g) 32 cap∧(32≤cap∧cap≤9223372036854775807)∧Mq=[(g,5,(bM.map bv++sp).toArray)])) (λw hw=>Dy w bM hbl) (λvq Mq hR0=>?_)
  obtain ⟨qx,spx,cpx,rfl,hcx,rfl⟩:=hR0
  refine Sy.movT<|sP (.slice (pA qx) 32 cpx)<|sG<|Sy.ret ?_
  exact JV 1 (qx,5,(bM.map bv++spx).toArray) rfl (v:=.slice (pA qx) 32 cpx) (.inl (show _=_ by kernel_rfl)) kR ⟨qx,spx,cpx,rfl,hcx,by rw [hbM]⟩
 ·have lb1:=dY hb1
  have hnk1:=hn64 k1 lb1
  obtain ⟨gK,oK,hT⟩:=hlk k1 lb1
  have lK:=lb1
  refine sT<|Sy.skip<|Sy.then_<|Sy.seq<|Sy.block<|sC<|sP (y1.v)<|sP (.slice R NR cR)<|sP (iZ k1)<|sS (.pointer (some ⟨gR,oR+k1*1,none⟩)) (Quiet.pure (AJ 25 _ _ _ R gR oR NR cR k1 1 .i64 (hR om).1 U U U Bl kF om))<|sS (.slice (a k1) (nk k1) (ck k1)) (Quiet.thereOne gR (oR+k1*1) 45 _ _ U kR (hR om).2.1 _ (AV ((hR om).2.2 k1 om) 0 U) CJ U)<|sP (iZ ((nk k1)))<|sS (bv (UInt8.ofNat (nk k1))) (Quiet.pure (λw=>CF w _ _ _ (nk k1) om U U))<|Sy.make kR 5 #[bv (UInt8.ofNat (nk k1))] (λg=>.slice (pA g) 1 1) kF (λg2=>?_)
  refine Sy.movT<|Sy.appendM kR 24 5 _ _ 1 1 EQ Ip U U U U dZ _ _ U (ys:=A6 [(UInt8.ofNat (nk k1))]) hh1 kR (Ed _) (Ds _) (pA g2) 1 1 U (Nat.le_refl _) kR (λ_=>From.arr (i:=0) (t:=5) (l:=[(UInt8.ofNat (nk k1))]) kR) (by have hq:=B2 hn64 X Y I _ (Nat.le_of_lt lK); simp only [B4,List.length_append,List.length_cons,List.length_nil,Ck]; omega) (by have hq:=B2 hn64 X Y I _ (Nat.le_of_lt lK); simp only [B4,List.length_append,List.length_cons,List.length_nil,Ck,maxLen]; omega) (λr2 hr2=>?_)
  refine sP (r2.v)<|sA<|sP (.int .i64 0)<|sG<|Sy.block<|Sy.loopT (Y:=Slc) (nk k1) (λk2 y2=>[(1,.slice R NR cR),(5,y2.v),(6,iZ k1),(7,iZ k2)]) (λk2 y2=>[]++(y2.bl++[])) (λk2 y2=>y2.Is 5 1 (A6 (m++(BQ nk X Y I k1++(UInt8.ofNat (nk k1)::EJ (X k1) (Y k1) (I k1) k2))))) r2 (by rw [show m++(BQ nk X Y I k1++(UInt8.ofNat (nk k1)::EJ (X k1) (Y k1) (I k1) 0))=(m++BQ nk X Y I k1)++[UInt8.ofNat (nk k1)] from (List.append_assoc ..).symm,Ee]; exact hr2) ac4 (λw hw=>St.pick (pre:=[(g2,5,#[bv (UInt8.ofNat (nk k1))])]) (M:=[]) [] dZ kR hw) (λk2 y2 hk2 hh2=>?_)
  refine Sy.seq<|sC<|sP (iZ k2)<|sP (.slice R NR cR)<|sP (iZ k1)<|sS (.pointer (some ⟨gR,oR+k1*1,none⟩)) (Quiet.pure (AJ 25 _ _ _ R gR oR NR cR k1 1 .i64 (hR om).1 U U U Bl kF om))<|sS (.slice (a k1) (nk k1) (ck k1)) (Quiet.thereOne gR (oR+k1*1) 45 _ _ U kR (hR om).2.1 _ (AV ((hR om).2.2 k1 om) 0 U) CJ U)<|sP (iZ ((nk k1))) ?_
  obtain ⟨b2,hb2⟩:=xE (decide (k2<(nk k1)))
  refine sS (.bool b2) (qls U U U hb2)<|sG ?_
  cases b2
  ·have lb2:=dN hb2
   refine sU<|Sy.exit<|Sy.then_exit<|Sy.then_exit ?_
   obtain rfl:k2=nk k1:=om
   refine Sy.in_exit<|Sy.in_<|Sy.then_<|Sy.region<|sP (iZ k1)<|sS (iZ (k1+1)) (qad U U U)<|sP (iZ (k1+1))<|Sy.nil ?_
   exact Sy.againT (y2) om (hh2) ac3 (λw hw=>hw)
  ·have lb2:=dY hb2
   refine sT<|Sy.skip<|Sy.then_<|Sy.seq<|Sy.block<|Sy.region<|sP (y2.v)<|sP (.slice R NR cR)<|sP (iZ k1)<|sS (.pointer (some ⟨gR,oR+k1*1,none⟩)) (Quiet.pure (AJ 25 _ _ _ R gR oR NR cR k1 1 .i64 (hR om).1 U U U Bl kF om))<|sS (.slice (a k1) (nk k1) (ck k1)) (Quiet.thereOne gR (oR+k1*1) 45 _ _ U kR (hR om).2.1 _ (AV ((hR om).2.2 k1 om) 0 U) CJ U)<|sP (iZ k2)<|sS (.pointer (some ⟨gK,oK+k2*9,none⟩)) (Quiet.pure (AJ 45 _ _ _ (a k1) gK oK (nk k1) (ck k1) k2 9 .i64 (hT om).1 U U U CJ kF om))<|sS (pv (X k1 k2) (Y k1 k2) (I k1 k2)) (Quiet.there gK (oK+k2*9) 9 48 (pml (X k1 k2) (Y k1 k2) (I k1 k2)) _ _ U kR (hT om).2.1 ((hT om).2.2 k2 om) An U kR U _ U)<|Sy.callN kR 42 #[pv (X k1 k2) (Y k1 k2) (I k1 k2)] kF ((I6 (dec (X k1 k2) (Y k1 k2) (I k1 k2)))) (λw hw=>Jz w _ _ _ (hX _ _) (hY _ _)) (λvq Mq hR0=>?_)
   obtain ⟨q8,sp8,cp8,rfl,hc8,rfl⟩:=hR0
   refine Sy.movT<|Sy.appendM kR 24 5 _ _ 1 1 EQ Ip U U U U dZ _ _ U (ys:=A6 (A3 (dec (X k1 k2) (Y k1 k2) (I k1 k2)))) hh2 kR (Ed _) (Ds _) (pA q8) 33 cp8 (by rw [B4]; exact (A5 _)) hc8.1 kR (λ_=>From.own (i:=0) (t:=5) (sp:=sp8) kR) (by have hq:=B2 hn64 X Y I _ (Nat.le_of_lt lK); simp only [B4,List.length_append,List.length_cons,List.length_nil,Ck]; omega) (by have hq:=B2 hn64 X Y I _ (Nat.le_of_lt lK); simp only [B4,List.length_append,List.length_cons,List.length_nil,Ck,maxLen]; omega) (λr3 hr3=>?_)
   refine sP (r3.v)<|Sy.nil<|Sy.in_<|Sy.then_<|Sy.region<|sP (iZ k2)<|sS (iZ (k2+1)) (qad U U U)<|sP (iZ (k2+1))<|Sy.nil ?_
   exact Sy.againT (r3) om (by rw [show m++(BQ nk X Y I k1++(UInt8.ofNat (nk k1)::EJ (X k1) (Y k1) (I k1) (k2+1)))=(m++(BQ nk X Y I k1++(UInt8.ofNat (nk k1)::EJ (X k1) (Y k1) (I k1) k2)))++A3 (dec (X k1 k2) (Y k1 k2) (I k1 k2)) by show m++(BQ nk X Y I k1++(UInt8.ofNat (nk k1)::(EJ (X k1) (Y k1) (I k1) k2++_)))=_; simp only [List.append_assoc,List.cons_append],Ee]; exact hr3) ac4 (λw hw=>St.pick (pre:=[(q8,5,((A3 (dec (X k1 k2) (Y k1 k2) (I k1 k2))).map bv++sp8).toArray)]) (M:=[]) [] dZ kR hw)
end Cu
end
section
namespace Cu
open Go.RowKit Sy
theorem St.pickX {w0:Base} {w:World} {pre A D M N:AD} (is:List Nat) (hn:is.Nodup) (hm:is.map (λi=>pre[i]?)=(M++N).map some) (hw:St w0 w (pre++(A++D))):St w0 w (M++(A++N)) :=
 Sy.St.pick2 (T:=[]) is hn hm (hw.less ((List.Sublist.refl _).append ((List.Sublist.refl _).append (List.nil_sublist _))))
def XtR (l:List UInt8) (j:Nat) (xt:Sh.Tx) (xb:AD):Prop:=∃ q sp,xt.A=some ⟨q,0,none⟩∧xt.l=l∧xb=[(q,5,(l.map bv++sp).toArray)]∧l.length=CT j∧CT j≤xt.c∧xt.c≤9223372036854775807
section
variable {l:List UInt8} {j:Nat} {xt:Sh.Tx} {xb:AD} {w0:Base} {w:World} {L:AD}
theorem Ou:∀ j,CT j≤33
 | 0=>by decide
 | _+1=>Nat.le_refl _
theorem XtR.src (h:XtR l j xt xb) (hw:St w0 w L) (hb:∀ b∈xb,b∈L):Sh.Src w xt.A l:=by
 obtain ⟨q,sp,h1,_,h2,_⟩:=h
 rw [h1]
 exact Fl (hw.blk _ _ _ (hb _ (by rw [h2]; exact List.mem_singleton.2 U))).2
theorem XtR.len (h:XtR l j xt xb):l.length=CT j∧CT j≤xt.c∧xt.c≤9223372036854775807:=by
 obtain ⟨_,_,_,_,_,h⟩:=h
 exact h
end
def eC (s:Nat→Nat) (bm:List UInt8) (i:Nat) (X Y:Nat→Nat) (I:Nat→Bool) (d:List UInt8) (j:Nat):Nat:=rgC bm (alX s bm i 0 X Y I d j) i j
theorem Qf (s:Nat→Nat) (bm:List UInt8) (i:Nat) (X Y:Nat→Nat) (I:Nat→Bool) (d:List UInt8) (j:Nat):eC s bm i X Y I d j<K4:=EY _ _ _ _
def EsR (s:Nat→Nat) (bm:List UInt8) (i:Nat) (X Y:Nat→Nat) (I:Nat→Bool) (d:List UInt8) (k:Nat) (v:Value) (M:AD):Prop:=∃ (y:Slc) (xt:Sh.Tx) (xb:AD),v=.tuple #[y.v,.slice xt.A (CT k) xt.c]∧M=y.bl++xb∧y.Is 42 4 ((List.range k).map λj=>fws (eC s bm i X Y I d j))∧XtR (alX s bm i 0 X Y I d k) k xt xb
theorem P5 (w:World) (MA:Option Addr) (bm:List UInt8) (mc:Nat) (hbm:bm.length=32) (hmc:32≤mc) (hmc2:mc≤9223372036854775807) (hms:Sh.Src w MA bm) (i:Nat) (hi:i<256) (KA:Option Addr) (KN kc:Nat) (X Y:Nat→Nat) (I:Nat→Bool) (hX:∀ k,X k<K4) (hY:∀ k,Y k<K4) (hlk:Lst w 9 KA KN (λk=>pml (X k) (Y k) (I k))) (d:List UInt8) (hd:d.length=32) (WA:Option Addr) (WN wc:Nat) (s:Nat→Nat) (hs4:∀ k,s k<K4) (hlw:Lst w 4 WA WN (λk=>fws (s k))) (K:Nat) (hK:K≤256) (hK1:K≤KN) (hK2:K≤WN) (htr:Sh.TabAt w 0):Calls Tryz.prog 17 #[.slice MA 32 mc,iZ i,.slice KA KN kc,.agg (d.map bv).toArray,.slice WA WN wc,iZ K] w (GetsN w (EsR s bm i X Y I d K)):=by
 obtain ⟨gK,oK,hT⟩:=hlk
 obtain ⟨gS,oS,hS⟩:=hlw
 refine Sy.enter (args:=[.slice MA 32 mc,iZ i,.slice KA KN kc,.agg (d.map bv).toArray,.slice WA WN wc,iZ K]) Tryz.func17 U kL<|sC<|sM 23 (d.map bv).toArray (λg0=>?_)
 refine sP (.slice none 0 0)<|sP (.slice none 0 0)<|sA<|sP (.slice none 0 0)<|sA<|sS (.agg (d.map bv).toArray) (Quiet.load 0 g0 0 32 23 23 (d.map bv).toArray _ _ U kR kR C8 U kR _ (BK d hd) (Bj d hd))<|Sy.callN kR 43 #[.agg (d.map bv).toArray] kF ((λvq Mq=>∃ (g:Nat) (sp:List Value) (cap:Nat),vq=.slice (pA g) 32 cap∧(32≤cap∧cap≤9223372036854775807)∧Mq=[(g,5,(d.map bv++sp).toArray)])) (λw hw=>Dy w d hd) (λvq Mq hR0=>?_)
 obtain ⟨qx,spx,cpx,rfl,hcx,rfl⟩:=hR0
 refine sP (.slice (pA qx) 32 cpx)<|sG<|Sy.seq<|sC<|sP (.int .i64 0)<|sG<|Sy.block<|Sy.loopT (Y:=Slc×Sh.Tx×AD) K (λk1 y1=>[(0,.slice MA 32 mc),(1,iZ i),(2,.slice KA KN kc),(4,.slice WA WN wc),(5,iZ K),(14,y1.1.v),(15,.slice y1.2.1.A (CT k1) y1.2.1.c),(16,iZ k1)]) (λk1 y1=>[(g0,23,(d.map bv).toArray)]++(y1.1.bl++y1.2.2)) (λk1 y1=>y1.1.Is 42 4 ((List.range k1).map λj=>fws (eC s bm i X Y I d j))∧XtR (alX s bm i 0 X Y I d k1) k1 y1.2.1 y1.2.2) (nilS,(⟨some ⟨qx,0,none⟩,d,cpx⟩:Sh.Tx),[(qx,5,(d.map bv++spx).toArray)]) ⟨Slc.Is.nil _ _,qx,spx,rfl,rfl,rfl,hd,hcx.1,hcx.2⟩ ac8 (λw hw=>hw) (λk1 y1 hk1 hh1=>?_)
 refine Sy.seq<|sC<|sP (iZ k1)<|sP (iZ K) ?_
 obtain ⟨b1,hb1⟩:=xE (decide (k1<K))
 refine sS (.bool b1) (qls U U U hb1)<|sG ?_
 cases b1
 ·have lb1:=dN hb1
  refine sU<|Sy.exit<|Sy.then_exit<|Sy.then_exit ?_
  obtain rfl:K=k1:=om
  refine Sy.in_exit<|sB<|sP (y1.1.v)<|sP (.slice y1.2.1.A (CT K) y1.2.1.c)<|sP (y1.1.v)<|sP (.slice y1.2.1.A (CT K) y1.2.1.c)<|sG<|Sy.ret ?_
  exact CA (y1.1.bl++y1.2.2) rfl (v:=y1.1.v) (u:=.slice y1.2.1.A (CT K) y1.2.1.c) (.inl (show _=_ by kernel_rfl)) (.inl (show _=_ by kernel_rfl)) (λw hw=>hw.less (List.sublist_append_right _ _)) ⟨y1.1,y1.2.1,y1.2.2,rfl,rfl,hh1.1,hh1.2⟩
 ·have lb1:=dY hb1
  refine sT<|Sy.skip<|Sy.then_<|Sy.seq<|Sy.block<|sC<|sP (.slice MA 32 mc)<|sP (.slice y1.2.1.A (CT k1) y1.2.1.c)<|sP (iZ i)<|sP (iZ k1)<|sS (fv (eC s bm i X Y I d k1)) (qG 57 #[.slice MA 32 mc,.slice y1.2.1.A (CT k1) y1.2.1.c,iZ i,iZ k1] (λw hw=>MF w MA bm mc hbm hmc hmc2 (hms.below hw.below) y1.2.1.A _ (CT k1) y1.2.1.c hh1.2.len.1 (by have:=Ou k1; omega) hh1.2.len.2.1 hh1.2.len.2.2 (hh1.2.src hw (λb hb=>List.mem_append.2 (.inr (List.mem_append.2 (.inr hb))))) i k1 om om (htr.below hw.below htr.lt)))<|sM 42 (fcs 0) (λg1=>?_)
  refine Sy.movT<|sW 1 g1 42 (fcs 0) (fcs (eC s bm i X Y I d k1)) (wS 0 42 (fcs (eC s bm i X Y I d k1)) U)<|Sy.setT<|sA<|sP (y1.1.v)<|sS (fv (eC s bm i X Y I d k1)) (qL 1 g1 0 4 42 42 (fcs (eC s bm i X Y I d k1)) U Ab)<|Sy.make kR 42 (fcs (eC s bm i X Y I d k1)) (λg=>.slice (pA g) 1 1) kF (λg2=>?_)
  refine Sy.movT<|Sy.appendR kR 51 42 _ _ 4 32 Ca Io U U U U dZ _ _ U hh1.1 kR (fws (eC s bm i X Y I d k1)) U (DT _) 2 g2 42 kR kR (by rw [List.length_map,List.length_range]; omega) (by rw [List.length_map,List.length_range]; simp only [maxLen]; omega) (λr1 hr1=>?_)
  refine sP (r1.v)<|sG<|Sy.regionD (λj=>false) kR<|sZ 0 U (.slice WA WN wc)<|sZ 1 U (iZ k1)<|sD 2 U (.pointer (some ⟨gS,oS+k1*4,none⟩)) (Quiet.pure (AJ 51 _ _ _ WA gS oS WN wc k1 4 .i64 (hS om).1 U U U Ca kF om))<|sD 3 U (fv (s k1)) (Quiet.there gS (oS+k1*4) 4 42 (fws (s k1)) _ _ U kR (hS om).2.1 ((hS om).2.2 k1 om) Ab U kR U _ U)<|sD 4 U (fv (eC s bm i X Y I d k1)) (qL 1 g1 0 4 42 42 (fcs (eC s bm i X Y I d k1)) U Ab)<|sZ 5 U (.slice KA KN kc)<|sZ 6 U (iZ k1)<|sD 7 U (.pointer (some ⟨gK,oK+k1*9,none⟩)) (Quiet.pure (AJ 45 _ _ _ KA gK oK KN kc k1 9 .i64 (hT om).1 U U U CJ kF om))<|sD 8 U (pv (X k1) (Y k1) (I k1)) (Quiet.there gK (oK+k1*9) 9 48 (pml (X k1) (Y k1) (I k1)) _ _ U kR (hT om).2.1 ((hT om).2.2 k1 om) An U kR U _ U)<|Sy.callND 9 U kR kR 58 #[fv (s k1),fv (eC s bm i X Y I d k1),pv (X k1) (Y k1) (I k1)] kF ((I6 (rPt (s k1) (eC s bm i X Y I d k1) (X k1) (Y k1) (I k1)))) (λw hw=>Mg w _ _ _ _ _ (hs4 _) (Qf _ _ _ _ _ _ _ _) (hX _) (hY _)) (λvq Mq hR0=>?_)
  obtain ⟨q8,sp8,cp8,rfl,hc8,rfl⟩:=hR0
  refine Sy.movTD<|sZ 10 U (.slice (pA q8) 33 cp8)<|sE<|Sy.in_<|Sy.then_<|Sy.region<|sP (iZ k1)<|sS (iZ (k1+1)) (qad U U U)<|sP (iZ (k1+1))<|Sy.nil ?_
  exact Sy.againT ((r1,(⟨some ⟨q8,0,none⟩,A3 (rPt (s k1) (eC s bm i X Y I d k1) (X k1) (Y k1) (I k1)),cp8⟩:Sh.Tx),[(q8,5,((A3 (rPt (s k1) (eC s bm i X Y I d k1) (X k1) (Y k1) (I k1))).map bv++sp8).toArray)])) om (⟨by rw [List.range_succ,List.map_append]; exact hr1,by rw [ED]; exact ⟨q8,sp8,rfl,rfl,rfl,A5 _,hc8.1,hc8.2⟩⟩) ac8 (λw hw=>St.pickX (pre:=[(g0,23,(d.map bv).toArray),(g1,42,(fcs (eC s bm i X Y I d k1))),(g2,42,(fcs (eC s bm i X Y I d k1))),(q8,5,((A3 (rPt (s k1) (eC s bm i X Y I d k1) (X k1) (Y k1) (I k1))).map bv++sp8).toArray)]) (M:=[(g0,23,(d.map bv).toArray)]) (N:=[(q8,5,((A3 (rPt (s k1) (eC s bm i X Y I d k1) (X k1) (Y k1) (I k1))).map bv++sp8).toArray)]) [0,3] dZ kR hw)
end Cu
end
section
namespace Cu
open Go.RowKit Sy
section
variable (s v:Nat→Nat→Nat) (sn vn:Nat→Nat)
end
section
variable {s v:Nat→Nat→Nat} {sn vn:Nat→Nat} {d d2:List UInt8} {NW NV:Nat}
end
end Cu
end
section
namespace Sy
open Go.RowKit
section
variable {L M:AD} {w0:Base} {w:World}
theorem St.parts {ls ms:List AD} (os:List AD) (is:List Nat) (hi:is.isPerm (List.range ls.length)=true) (hm:is.map (λi=>ls[i]?)=(ms++os).map some) (hL:L=ls.flatten) (hM:M=ms.flatten) (hw:St w0 w L):St w0 w M:=by
 have h1:L.Perm (M++os.flatten):=by
  rw [hL,hM, ← List.flatten_append]
  exact (PU is hi hm).flatten
 exact (hw.perm h1).less (List.sublist_append_left _ _)
end
section
variable {f:Nat→List Value} {s m k o:Nat} {sp:List Value}
end
section
variable {r:Nat→Slc} {n i:Nat} {pre M R D E:AD} {b:Nat×TypeId×Array Value} {v:Value} {w0:Base} {w:World}
theorem end_front:((pre++R)++D).Perm (pre++(D++R)):=by
 rw [List.append_assoc]
 exact List.perm_append_comm.append_left pre
end
end Sy
end
section
namespace Cu
open Go.RowKit Sy
section
variable {d z:List UInt8} {u x:Value}
end
end Cu
end
section
namespace Cu
open Go.RowKit Sy
theorem Nj (k e x:Nat) {px py:Nat} {pi:Bool} (hd:dec px py pi=evP x):rPt (Sc.subP k (Sc.mulP e x)) e px py pi=evP k:=by
 have oB:Ec.On bP:=bP_on
 have oX:Ec.On (evP x):=K6 x
 unfold rPt
 rw [hd,E_ oB,E_ oX]
 have e1:Ec.nm Ac (Sc.subP k (Sc.mulP e x)) bP=Ec.add Ac (Ec.nm Ac k bP) (Ec.neg (Ec.nm Ac e (evP x))):=by
  unfold Sc.subP
  rw [E_ oB,Ec.nm_add fld oB]
  have e2:Ec.nm Ac (Sc.pM - Sc.mulP e x%Sc.pM) bP=Ec.nm Ac (Sc.negP (Sc.mulP e x)%Sc.pM) bP:=by
   unfold Sc.negP
   rw [E_ oB,E_ oB]
  rw [e2,Pb oB,E_ oB]
  unfold Sc.mulP evP
  rw [E_ oB,Ec.nm_mul fld oB,E_ oB]
 rw [e1]
 have o1:=oX.nm fld e
 rw [Ec.assoc fld (oB.nm fld k) o1.neg o1,Ec.neg_add,Ec.add_zero]
 unfold evP
 rw [E_ oB]
theorem Nz {x px py:Nat} {pi:Bool} (h:Bc x px py pi=true):dec px py pi=evP x:=by
 unfold Bc CW at h
 rw [Bool.and_eq_true,Bool.and_eq_true,decide_eq_true_iff,decide_eq_true_iff,beq_iff_eq] at h
 rw [← h.1, ← h.2.1, ← h.2.2]
 exact B_ (K6 x)
section
variable {s s':Nat→Nat} {bm x:List UInt8} {i:Nat} {X Y:Nat→Nat} {I:Nat→Bool}
theorem FO {f:Nat}:∀ k,(∀ j,j<k→s (f+j)=s' (f+j))→alX s bm i f X Y I x k=alX s' bm i f X Y I x k
 | 0,_=>rfl
 | k+1,h=>by
  show A3 (rPt (s (f+k)) (rgC bm (alX s bm i f X Y I x k) i (f+k)) (X (f+k)) (Y (f+k)) (I (f+k)))=A3 (rPt (s' (f+k)) (rgC bm (alX s' bm i f X Y I x k) i (f+k)) (X (f+k)) (Y (f+k)) (I (f+k)))
  rw [FO k (λj hj=>h j om),h k (Nat.lt_succ_self k)]
theorem L2 (f:Nat):∀ k,alX s bm i 0 X Y I x (f+k)=alX s bm i f X Y I (alX s bm i 0 X Y I x f) k
 | 0=>rfl
 | k+1=>by
  rw [← Nat.add_assoc,ED,L2 f k]
  rfl
end
section
variable {bm sd:List UInt8} {X Y:Nat→Nat→Nat} {I:Nat→Nat→Bool} {at_ nk sx:Nat→Nat} {d:List UInt8}
theorem KQ {i j:Nat} (h:j≠at_ i):sgS bm sd X Y I at_ sx d i j=rgF bm sd i j:=if_neg h
theorem NM (i:Nat):sgS bm sd X Y I at_ sx d i (at_ i)=Sc.subP (rgN bm sd i) (Sc.mulP (sgE bm sd X Y I at_ d i) (sx i)):=if_pos U
theorem O9 (i j:Nat):sgS bm sd X Y I at_ sx d i j%Sc.pM=sgS bm sd X Y I at_ sx d i j:=by
 unfold sgS
 split
 ·exact Nat.mod_mod _ _
 ·exact Nat.mod_mod _ _
theorem JN (i:Nat):alX (sgS bm sd X Y I at_ sx d i) bm i 0 (X i) (Y i) (I i) d (at_ i)=alX (rgF bm sd i) bm i 0 (X i) (Y i) (I i) d (at_ i) :=
 FO _ λj hj=>KQ om
theorem Rt (i:Nat):eE (sgS bm sd X Y I at_ sx d) bm X Y I d i (at_ i)=sgE bm sd X Y I at_ d i:=by
 unfold eE sgE
 rw [JN]
theorem MH {i:Nat} (h:Bc (sx i) (X i (at_ i)) (Y i (at_ i)) (I i (at_ i))=true):alX (sgS bm sd X Y I at_ sx d i) bm i 0 (X i) (Y i) (I i) d (at_ i+1)=sgX bm sd i:=by
 rw [ED,JN,NM]
 show A3 (rPt (Sc.subP (rgN bm sd i) (Sc.mulP (sgE bm sd X Y I at_ d i) (sx i))) (sgE bm sd X Y I at_ d i) _ _ _)=A3 _
 rw [Nj _ _ _ (Nz h)]
theorem NK {i:Nat} (ha:at_ i<nk i) (h:Bc (sx i) (X i (at_ i)) (Y i (at_ i)) (I i (at_ i))=true):alX (sgS bm sd X Y I at_ sx d i) bm i 0 (X i) (Y i) (I i) d (nk i)=sgL bm sd X Y I at_ nk i:=by
 have e:nk i=at_ i+1+(nk i - (at_ i+1)):=om
 rw [e,L2,MH h]
 unfold sgL
 exact FO _ λj hj=>KQ om
theorem LW:∀ k,(∀ i,i<k→at_ i<nk i∧Bc (sx i) (X i (at_ i)) (Y i (at_ i)) (I i (at_ i))=true)→EK (sgS bm sd X Y I at_ sx d) bm X Y I d nk k=EV bm sd X Y I at_ nk k
 | 0,_=>rfl
 | k+1,h=>by
  show EK _ bm X Y I d nk k++alX _ bm k 0 _ _ _ d (nk k)=EV bm sd X Y I at_ nk k++sgL bm sd X Y I at_ nk k
  rw [LW k (λi hi=>h i om),NK (h k (Nat.lt_succ_self k)).1 (h k (Nat.lt_succ_self k)).2]
theorem J7 {NR:Nat} {sn:Nat→Nat} (hs:∀ i,i<NR→sn i=nk i) (h:∀ i,i<NR→at_ i<nk i∧Bc (sx i) (X i (at_ i)) (Y i (at_ i)) (I i (at_ i))=true):chB (sgS bm sd X Y I at_ sx (sgD bm sd X Y I at_ nk NR)) bm X Y I (sgD bm sd X Y I at_ nk NR) NR NR sn nk=true :=
 Lw U (λi hi=>Hg (hs i hi) λj _=>O9 i j) (by rw [LW NR h]; rfl)
end
end Cu
end
section
namespace Cu
open Go.RowKit Sy
def aX (_ _:Nat):Nat:=gx.val
def aY (_ _:Nat):Nat:=gy.val
def aI (_ _:Nat):Bool:=false
def a1 (_:Nat):Nat:=1
def aAt (_:Nat):Int:=0
theorem RS:evP 1=bP:=by
 unfold evP
 rw [E_ bP_on]
 show Ec.add Ac none bP=bP
 rw [Ec.zero_add]
theorem L4:De 1 a1 aX aY aI=true:=by
 unfold De
 rw [show szB 1 a1=true from (LQ 1 a1).2 ⟨Nat.le_refl _,by decide,λj _=>⟨Nat.le_refl _,by show 1≤64; decide⟩⟩,Bool.true_and]
 have h:Al gx.val gy.val false=true:=IR (P:=bP) bP_on
 simp [Fg,E1,a1,aX,aY,aI,h]
theorem Ot:Bc 1 gx.val gy.val false=true:=by
 unfold Bc
 rw [RS]
 exact KR gx.val gy.val false
theorem SU:DV aAt a1 a1 aX aY aI 1 1=true :=
 Ju U λj _=>by
  have q:=K3 (At:=aAt) (sx:=a1) (n:=a1) (X:=aX) (Y:=aY) (I:=aI) (k:=j) (q:=0) (by show ¬ (0:Int)<0; decide) (by show ¬ (0:Int) ≥ ((1:Nat):Int); decide) rfl
  rw [q]
  exact Ot
def Rh (v:Value) (M:AD):Prop:=∃ (d:List UInt8) (s:Nat→Nat→Nat) (g:Nat) (r:Nat→Slc),v=.tuple #[A4 d (pA g) 1 1,.int .i64 0]∧M=(g,51,Ai r 1)::BJ r 1∧d.length=32∧(∀ i k,s i k<K4)∧RowsAre r 42 4 (λi j=>fws (s i j)) (Bz a1 1 0)∧vfB [] 1 a1 aX aY aI s d 1 a1=true
theorem Rb {sd:List UInt8} {v:Value} {M:AD} (h:SgnR (De 1 a1 aX aY aI) (DV aAt a1 a1 aX aY aI 1 1) (sgD (rgM [] 1 a1 aX aY aI) sd aX aY aI (λi=>(aAt i).toNat) a1 1) (sgF (rgM [] 1 a1 aX aY aI) sd aX aY aI (λi=>(aAt i).toNat) a1 (sgD (rgM [] 1 a1 aX aY aI) sd aX aY aI (λi=>(aAt i).toNat) a1 1)) a1 1 v M):Rh v M:=by
 obtain ⟨bm,hbm⟩:=xE (rgM [] 1 a1 aX aY aI)
 rw [← hbm] at h
 rcases h with ⟨h,_⟩ | ⟨_,h,_⟩ | ⟨_,_,u,rfl,g,r,rfl,rfl,hr⟩
 ·rw [L4] at h; cases h
 ·rw [SU] at h; cases h
 ·refine ⟨_,sgS bm sd aX aY aI (λi=>(aAt i).toNat) a1 (sgD bm sd aX aY aI (λi=>(aAt i).toNat) a1 1),g,r,rfl,rfl,Fm _,λ_ _=>NL _ _,hr,?_⟩
  unfold vfB
  rw [L4, ← hbm,Bool.true_and]
  exact J7 (λ_ _=>rfl) (λi _=>⟨by show (0:Nat)<1; decide,Ot⟩)
theorem D6 {w:World} {g s:Nat} {t:TypeId} {cs:Array Value} {f:Nat→List Value} (hb:Blk w g t cs) (hf:cs.toList=f 0):Lst w s (pA g) 1 f:=⟨g,0,λ_=>⟨rfl,hb.lt,λj hj=>by
 obtain rfl:j=0:=om
 rw [Nat.zero_mul]
 refine Bw hb ?_
 rw [List.drop_zero,hf,List.take_of_length_le (Nat.le_refl _)]⟩⟩
theorem LE {w:World} {g0 g1 g2:Nat} {t0 t1 t2:TypeId} (h0:Blk w g0 t0 (pcs gx.val gy.val false)) (h1:Blk w g1 t1 #[.slice (pA g0) 1 1]) (h2:Blk w g2 t2 (Aq ((0:Nat):Int) 1).toArray) (ht:Sh.TabAt w 1) :
  Calls Tryz.prog 10 #[.agg ((List.replicate 32 (0:UInt8)).map bv).toArray,.slice none 0 0,.slice (pA g1) 1 1,.slice (pA g2) 1 1] w (GetsN w Rh):=by
 have q:=H_ w (List.replicate 32 0) List.length_replicate none [] 0 0 U dZ dZ dZ (λh=>absurd U h) (pA g1) 1 1 (λ_=>some ⟨g0,0,none⟩) a1 a1 aX aY aI (λ_ _=>lt4 _) (λ_ _=>lt4 _) dZ (λ_=>by show 1≤_; decide) (D6 h1 U) (λi _=>D6 h0 U) dZ (pA g2) 1 1 aAt a1 (λ_=>by show 1<K4; decide) dZ (D6 h2 U) ht
 exact Calls.mono q λe w' ⟨v,M,h1,h2,h3⟩=>⟨v,M,h1,Rb h2,h3⟩
theorem I1 {w:World} {g0 g1 gF:Nat} {t0 t1 tF:TypeId} {d:List UInt8} {s:Nat→Nat→Nat} {r:Nat→Slc} {A:Option Addr} {k:Nat} (h0:Blk w g0 t0 (pcs gx.val gy.val false)) (h1:Blk w g1 t1 #[.slice (pA g0) 1 1]) (hF:Blk w gF tF (Ai r 1)) (hd:d.length=32) (hs:∀ i k,s i k<K4) (hv:(r 0).v=.slice A 1 k) (hl:Lst w 4 A 1 (λj=>fws (s 0 j))) (hc:vfB [] 1 a1 aX aY aI s d 1 a1=true) (ht:Sh.TabAt w 1) :
  Calls Tryz.prog 12 #[.slice none 0 0,.slice (pA g1) 1 1,A4 d (pA gF) 1 1] w (Gets w (.bool true)):=by
 have q:=Fc w none [] 0 0 U dZ dZ dZ (λh=>absurd U h) (pA g1) 1 1 (λ_=>some ⟨g0,0,none⟩) a1 a1 aX aY aI (λ_ _=>lt4 _) (λ_ _=>lt4 _) dZ (λ_=>by show 1≤_; decide) (D6 h1 U) (λi _=>D6 h0 U) dZ d hd (pA gF) 1 1 (λ_=>A) a1 (λ_=>k) s hs dZ (λ_ _=>by show 1≤_; decide) (D6 hF (by
  show AQ (λj=>[(r j).v]) 1=[.slice A 1 k]
  rw [← hv]
  rfl)) (λi hi=>by
  obtain rfl:i=0:=om
  exact hl) ht
 rw [hc] at q
 exact q
theorem LF (w:World) (ht:Sh.TabAt w 1):Calls Tryz.prog 11 #[] w (Gets w (.bool true)):=by
 refine Sy.enter (args:=[]) Tryz.func11 U kL<|sC<|sP (.bool false)<|sA<|sS (pv gx.val gy.val false) (qF 16 #[] (Iz))<|Sy.make kR 48 (pcs gx.val gy.val false) (λg=>.slice (pA g) 1 1) kF (λg0=>?_)
 refine Sy.make kR 45 #[.slice (pA g0) 1 1] (λg=>.slice (pA g) 1 1) kF (λg1=>?_)
 refine sP (.slice (pA g1) 1 1)<|sA<|sP (.agg ((List.replicate 32 (0:UInt8)).map bv).toArray)<|sP (.slice (pA g1) 1 1)<|sP (fv 1)<|sP (.agg (Aq ((0:Nat):Int) 1).toArray)<|Sy.make kR 44 (Aq ((0:Nat):Int) 1).toArray (λg=>.slice (pA g) 1 1) kF (λg2=>?_)
 refine Sy.callN kR 10 #[.agg ((List.replicate 32 (0:UInt8)).map bv).toArray,.slice none 0 0,.slice (pA g1) 1 1,.slice (pA g2) 1 1] kF (Rh) (λw hw=>LE (hw.get (i:=0) rfl) (hw.get (i:=1) rfl) (hw.get (i:=2) rfl) (ht.below hw.below ht.lt)) (λvq Mq hR0=>?_)
 obtain ⟨d0,s0,gF,r0,rfl,rfl,hdl,hs4,hr0,hvf⟩:=hR0
 obtain ⟨A0,k0,hv0,_,_,hl0⟩:=hr0.lst (i:=0) (N:=1) (m:=1) rfl dZ
 refine Sy.permS (M:=[(g0,48,(pcs gx.val gy.val false)),(g1,45,#[.slice (pA g0) 1 1]),(g2,44,(Aq ((0:Nat):Int) 1).toArray),(gF,51,(Ai r0 1))]++(BJ r0 1++[])) (by rw [List.append_nil]; exact List.Perm.refl _)<|sP (.tuple #[A4 d0 (pA gF) 1 1,.int .i64 0])<|sP (A4 d0 (pA gF) 1 1)<|sP (.int .i64 0)<|sM 31 zS33.toArray (λg3=>?_)
 refine Sy.movT<|sW 4 g3 31 zS33.toArray (AZ d0 (pA gF) 1 1).toArray (Writes.row 31 (AZ d0 (pA gF) 1 1) 33 _ _ U kR kR kR (BD hdl) (by rw [List.size_toArray,BD List.length_replicate]) EU)<|Sy.setT<|sP (.int .i64 0)<|sA<|sP (.int .i64 0)<|sP (.bool true)<|sP (.bool true)<|sP (pT g3 32)<|sS (.slice (pA gF) 1 1) (Quiet.cell 4 g3 32 31 29 (AZ d0 (pA gF) 1 1).toArray _ _ U kR kR CK U _ (Db hdl))<|sP (.int .i64 1)<|sP (.bool true)<|sP (.bool true)<|sP (.bool true)<|sP (.slice (pA g1) 1 1)<|sS (A4 d0 (pA gF) 1 1) (Quiet.load 4 g3 0 33 31 31 (AZ d0 (pA gF) 1 1).toArray _ _ U kR kR Gz U kR _ (C_ hdl) (E7 hdl))<|sS (.bool true) (qG 12 #[.slice none 0 0,.slice (pA g1) 1 1,A4 d0 (pA gF) 1 1] (λw hw=>I1 (hw.get (i:=0) rfl) (hw.get (i:=1) rfl) (hw.get (i:=3) rfl) hdl hs4 hv0 (hl0 hw (λb hb=>List.mem_append.2 (.inr (List.mem_append.2 (.inl hb))))) hvf (ht.below hw.below ht.lt)))<|sP (.bool true)<|sP (.bool true)<|sG<|Sy.ret ?_
 exact rV (.bool true) rfl
end Cu
end
section
namespace Cu
open Go.RowKit Sy
def slA:Value→Option Addr
 | .slice A _ _=>A
 | _=>none
def slC:Value→Nat
 | .slice _ _ c=>c
 | _=>0
section
variable {w0:Base} {br bf:Bool} {d:List UInt8} {s:Nat→Nat→Nat} {nk:Nat→Nat} {NR:Nat} {v:Value} {M:AD}
def uD (br bf:Bool) (d:List UInt8):List UInt8:=if br && bf then d else List.replicate 32 0
def uN (br bf:Bool) (N:Nat):Nat:=if br && bf then N else 0
def uE (br bf:Bool):Int:=if br then (if bf then 0 else 81) else 80
theorem Qo (h:d.length=32):(uD br bf d).length=32:=by unfold uD; split; exact h; exact List.length_replicate
end
def csl (sd:List UInt8) (us:List Value):List Value:=sd.map bv++us
def csv (sd:List UInt8) (us:List Value):Value:=.agg (csl sd us).toArray
section
variable {sd:List UInt8} {us:List Value}
theorem CH (h:sd.length=32) (k:Nat):(csl sd us).toArray[32+k]? = us[k]?:=by
 rw [List.getElem?_toArray]
 unfold csl
 rw [List.getElem?_append_right (by rw [List.length_map,h]; exact Nat.le_add_right _ _),List.length_map,h,Nat.add_sub_cancel_left]
theorem Gk (h:sd.length=32):Value.agg (((csl sd us).toArray.toList.drop 0).take 32).toArray=.agg (sd.map bv).toArray:=by
 show Value.agg (((csl sd us).drop 0).take 32).toArray=_
 rw [List.drop_zero]
 unfold csl
 rw [List.take_left' (by rw [List.length_map,h])]
theorem Iv (h:sd.length=32):0+32≤(csl sd us).toArray.size:=by rw [List.size_toArray]; unfold csl; rw [List.length_append,List.length_map,h]; omega
end
end Cu
end
section
namespace Cu
open Go.ChangeShapes Go.WideShapes Go.ChangeAt Go.RowKit Sy Go.Deep
theorem J_ {H:Type}:∀ {l:List (DataW H)} {d:DataW H},d∈l→Rows.uptoBulk d≤Rows.uptoBulkAll l
 | [],_,h=>by cases h
 | d'::r,d,h=>by
  simp only [Rows.uptoBulkAll]
  cases List.mem_cons.1 h with
  | inl e=>subst e; omega
  | inr h=>have:=J_ h; omega
theorem DO {α:Type} [Inhabited α] (cells:α→List Value) (ok:α→Prop) (sz:α→Nat) (s:Nat) (hs:0<s) (hc:∀ x,(cells x).length=s) (h0:ok default) (h1:sz default=0) {H:Type} {enc:TypeId×Value→H} {P:Program} {W:World} {t e:TypeId} {fuel:Nat} {cs:List Value} {x:DataW H×List MemPlace}
  (ht:P.underlying t=some (.slice e)) (hce:P.cellsOf e=s) (hel:∀ (fuel:Nat) (cs:List Value) (x:DataW H×List MemPlace),cs.length=s→DataW.trod enc P W 0 (λ_=>true) true fuel e cs=some x→∃ y,ok y∧cs=cells y∧sz y≤Rows.uptoBulk x.1)
  (hf:DataW.trod enc P W 0 (λ_=>true) true fuel t cs=some x) :
  ∃ (A:Option Addr) (m c:Nat) (T:Nat→α),cs=[.slice A m c]∧m≤c∧c≤9223372036854775807∧(∀ j,ok (T j))∧(∀ j,sz (T j)≤Rows.uptoBulk x.1)∧Lst W s A m (λj=>cells (T j))∧m≤Rows.uptoBulk x.1:=by
 rcases open_slice ht hf with ⟨hcs,hx⟩ | ⟨a,len,cap,m,n,D,Pl,hcs,_,hl,hm,hme,hx,hall⟩
 ·exact ⟨none,0,0,λ_=>default,hcs,Nat.le_refl _,by omega,λ_=>h0,λ_=>by rw [h1]; exact Nat.zero_le _,Ku λhn=>absurd hn (Nat.lt_irrefl _),Nat.zero_le _⟩
 ·simp only [if_true] at hme
  subst hme
  rw [hce] at hall
  have hb:∀ i,i<len→Rows.uptoBulk (D i)≤Rows.uptoBulk x.1:=λi hi=>by
   subst hx
   have:=J_ (l:=(List.range len).map D) (d:=D i) (List.mem_map.2 ⟨i,List.mem_range.2 hi,rfl⟩)
   simp only [Rows.uptoBulk]
   omega
  obtain ⟨X,hX0,hX⟩:=K7 (α:=α) (n:=len) (p:=λi y=>(ok y∧sz y≤Rows.uptoBulk x.1)∧W.cells? 0 (a.add (i*s)) s=some (cells y)) (λi hi=>by
   obtain ⟨cs',h1,h2⟩:=hall i om
   obtain ⟨y,hy,rfl,hz⟩:=hel _ _ _ (K8 h1) h2
   exact ⟨y,⟨hy,Nat.le_trans hz (hb i hi)⟩,h1⟩) (λy=>ok y∧sz y≤Rows.uptoBulk x.1) ⟨h0,by rw [h1]; exact Nat.zero_le _⟩ (λ_ _ hp=>hp.1)
  refine ⟨some a,len,m,X,hcs,hl,by simpa [maxLen] using hm,λj=>(hX0 j).1,λj=>(hX0 j).2,Ku λhpos=>?_,?_⟩
  ·obtain ⟨_,hc0⟩:=hX 0 hpos
   obtain ⟨v0,hv0⟩:∃ v0,(cells (X 0))[0]? = some v0:=⟨(cells (X 0))[0]'(by rw [hc]; exact hs),List.getElem?_eq_getElem _⟩
   have hcell:W.cell? a=some v0:=by
    have:=Fb hc0 0 v0 hv0
    simpa [Addr.add] using this
   obtain ⟨b,o,rfl,hlt⟩:=K9 hcell
   refine ⟨b,o,rfl,hlt,λj hj i v hi=>?_⟩
   have:=Fb (hX j hj).2 i v hi
   rwa [KH,KH] at this
  ·subst hx
   have:=J' ((List.range len).map D)
   simp only [Rows.uptoBulk]
   simp only [List.length_map,List.length_range] at this
   omega
theorem Q7 {H:Type} {enc:TypeId×Value→H} {P:Program} {W:World} {fuel:Nat} {t:TypeId} {cs:List Value} {x:DataW H×List MemPlace} (ht:P.underlying t=some (.int .u8)) (hf:DataW.trod enc P W 0 (λ_=>true) true fuel t cs=some x):∃ u:UInt8,cs=[bv u]:=by
 cases fuel with
 | zero=>simp [DataW.trod] at hf
 | succ m =>
  obtain ⟨z,e,_,w⟩:=DataW.trod_int ht hf
  refine ⟨UInt8.ofNat z.toNat,?_⟩
  have hz:0≤z∧z<256:=by
   simp [Lit.wf,IntKind.bits,IntKind.signed,IntKind.min,IntKind.max] at w
   omega
  rw [e]
  unfold bv
  congr 2
  rw [UInt8.toNat_ofNat']
  omega
theorem Kg {H:Type} {enc:TypeId×Value→H} {W:World} {fuel:Nat} {cs:List Value} {x:DataW H×List MemPlace} (hf:DataW.trod enc Tryz.prog W 0 (λ_=>true) true fuel 24 cs=some x) :
  ∃ (A:Option Addr) (m:List UInt8) (c:Nat),cs=[.slice A m.length c]∧m.length≤c∧c≤9223372036854775807∧Sh.Src W A m∧m.length≤Rows.uptoBulk x.1:=by
 obtain ⟨A,n,c,T,e,h1,h2,_,_,hls,hn⟩:=DO (P:=Tryz.prog) (λu:UInt8=>[bv u]) (λ_=>True) (λ_=>0) 1 dZ (λ_=>rfl) trivial U EQ kZ
  (λfuel cs x hl hf=>by
   obtain ⟨u,e⟩:=Q7 (P:=Tryz.prog) uy5 hf
   exact ⟨u,trivial,e,Nat.zero_le _⟩) hf
 have hl:((List.range n).map T).length=n:=by rw [List.length_map,List.length_range]
 refine ⟨A,(List.range n).map T,c,by rw [hl]; exact e,by rw [hl]; exact h1,h2,λhne=>?_,by rw [hl]; exact hn⟩
 obtain ⟨g,o,hg⟩:=hls
 have hpos:0<n:=by
  rcases Nat.eq_zero_or_pos n with h | h
  ·subst h; exact absurd U hne
  ·exact h
 obtain ⟨hA,hb,hr⟩:=hg hpos
 refine ⟨g,o,hA,hb,λj u hu=>?_⟩
 have hj:j<n:=by have:=(List.getElem?_eq_some_iff.1 hu).1; rwa [hl] at this
 rw [List.getElem?_map,List.getElem?_range hj] at hu
 have hu':T j=u:=by simpa using hu
 have:=hr j hj 0 (bv u) (by rw [← hu']; rfl)
 rwa [Nat.mul_one,Nat.add_zero] at this
abbrev RowP:=Option Addr×Nat×Nat×(Nat→Pr)
def RowP.is (W:World) (y:RowP):Prop:=Lst W 9 y.1 y.2.1 (λk=>(y.2.2.2 k).cells)∧∀ k,(y.2.2.2 k).ok
theorem Jd {H:Type} {enc:TypeId×Value→H} {W:World} {fuel:Nat} {cs:List Value} {x:DataW H×List MemPlace} (hf:DataW.trod enc Tryz.prog W 0 (λ_=>true) true fuel 25 cs=some x) :
  ∃ (R:Option Addr) (NR cR:Nat) (a:Nat→Option Addr) (nk ck:Nat→Nat) (X Y:Nat→Nat→Nat) (I:Nat→Nat→Bool),cs=[.slice R NR cR]∧(∀ i k,X i k<K4)∧(∀ i k,Y i k<K4)∧(∀ i,nk i≤Rows.uptoBulk x.1)∧Lst W 1 R NR (λi=>[.slice (a i) (nk i) (ck i)])∧(∀ i,i<NR→Lst W 9 (a i) (nk i) (λk=>pml (X i k) (Y i k) (I i k)))∧NR≤Rows.uptoBulk x.1:=by
 obtain ⟨R,NR,cR,T,e,_,_,hok,hsz,hls,hn⟩:=DO (P:=Tryz.prog) (λy:RowP=>[.slice y.1 y.2.1 y.2.2.1]) (RowP.is W) (λy=>y.2.1) 1 dZ (λ_=>rfl)
  ⟨Ku λh=>absurd h (Nat.lt_irrefl _),λ_=>⟨Da,Da⟩⟩ rfl Bl kZ
  (λfuel cs x _ hf=>by
   obtain ⟨A,n,c,T,e,_,_,hT,_,hls,hn⟩:=DO (P:=Tryz.prog) Pr.cells Pr.ok (λ_=>0) 9 dZ (λ_=>rfl) ⟨Da,Da⟩ rfl CJ kZ
    (λfuel cs x hl hf=>by
     obtain ⟨y,hy,e⟩:=Np fuel cs x hl hf
     exact ⟨y,hy,e,Nat.zero_le _⟩) hf
   exact ⟨(A,n,c,T),⟨hls,hT⟩,e,hn⟩) hf
 exact ⟨R,NR,cR,λi=>(T i).1,λi=>(T i).2.1,λi=>(T i).2.2.1,λi k=>((T i).2.2.2 k).x,λi k=>((T i).2.2.2 k).y,λi k=>((T i).2.2.2 k).i,e,λi k=>((hok i).2 k).1,λi k=>((hok i).2 k).2,hsz,hls,λi _=>(hok i).1,hn⟩
theorem G4 {H:Type} {enc:TypeId×Value→H} {W:World} {fuel:Nat} {cs:List Value} {x:DataW H×List MemPlace} (hf:DataW.trod enc Tryz.prog W 0 (λ_=>true) true fuel 26 cs=some x) :
  ∃ (S:Option Addr) (NS cS:Nat) (At:Nat→Int) (sx:Nat→Nat),cs=[.slice S NS cS]∧(∀ i,sx i<K4)∧Lst W 5 S NS (λi=>Aq (At i) (sx i))∧NS≤Rows.uptoBulk x.1:=by
 obtain ⟨S,NS,cS,T,e,_,_,hok,_,hls,hn⟩:=DO (P:=Tryz.prog) (λy:Int×Nat=>Aq y.1 y.2) (λy=>y.2<K4) (λ_=>0) 5 dZ (λ_=>rfl) Da U C4 kZ
  (λfuel cs x hl hf=>by
   obtain ⟨y0,y1,n,_,_,g0,g1⟩:=trod_struct2 I' hf
   obtain ⟨z,e0,_⟩:=PX (P:=Tryz.prog) uy3 g0
   have l1:((cs.drop 1).take 4).length=4:=by rw [List.length_take,List.length_drop,hl]; rfl
   obtain ⟨k,hk,e1⟩:=Kz l1 (P:=Tryz.prog) Ab BV kZ g1
   refine ⟨(z,k),hk,?_,Nat.zero_le _⟩
   have s:=NI (cs:=cs) (a:=1) (b:=4) hl
   have q0:(cs.drop 0).take 1=[.int .i64 z]:=e0
   rw [s,q0,e1]
   rfl) hf
 exact ⟨S,NS,cS,λi=>(T i).1,λi=>(T i).2,e,hok,hls,hn⟩
theorem open_case {H:Type} {enc:TypeId×Value→H} {W:World} {r:Reach} {b0:Nat} {v:Value} {d:DataW H} {ps:List MemPlace}
  (hval:Value.okWide Tryz.prog W r b0 28 v) (h:DataW.Trod enc Tryz.prog W 0 (λ_=>true) true 28 v d ps) :
  ∃ (sd:List UInt8) (A:Option Addr) (m:List UInt8) (c:Nat) (R:Option Addr) (NR cR:Nat) (a:Nat→Option Addr) (nk ck:Nat→Nat) (X Y:Nat→Nat→Nat) (I:Nat→Nat→Bool) (S:Option Addr) (NS cS:Nat) (At:Nat→Int) (sx:Nat→Nat),
   v=csv sd [.slice A m.length c,.slice R NR cR,.slice S NS cS]∧sd.length=32∧(m.length≤c∧c≤9223372036854775807∧Sh.Src W A m)∧((∀ i k,X i k<K4)∧(∀ i k,Y i k<K4)∧Lst W 1 R NR (λi=>[.slice (a i) (nk i) (ck i)])∧∀ i,i<NR→Lst W 9 (a i) (nk i) (λk=>pml (X i k) (Y i k) (I i k)))∧((∀ i,sx i<K4)∧Lst W 5 S NS (λi=>Aq (At i) (sx i)))∧m.length≤Rows.uptoBulk d∧NR≤Rows.uptoBulk d∧(∀ i,nk i≤Rows.uptoBulk d)∧NS≤Rows.uptoBulk d:=by
 have ht:=SY
 obtain ⟨⟨cs⟩,rfl,hsz⟩:=okWide_struct ht hval
 rw [show Tryz.prog.cellsOf 28=35 by kernel_rfl] at hsz
 have hl:cs.length=32+(1+(1+1)):=by simpa using hsz
 obtain ⟨fuel,hf⟩:=h
 obtain ⟨y0,y1,y2,y3,n,hx,_,g0,g1,g2,g3⟩:=Joins.trod_struct4 ht (by simpa [Value.cells] using hf)
 have s:=Qs hl
 obtain ⟨sd,hsd,e0⟩:=Kh (P:=Tryz.prog) C8 uy5 kZ kZ g0
 obtain ⟨A,m,c,e1,hc1,hc2,hs1,hm⟩:=Kg g1
 obtain ⟨R,NR,cR,a,nk,ck,X,Y,I,e2,hX,hY,hnk,hlr,hlk,hNR⟩:=Jd g2
 obtain ⟨S,NS,cS,At,sx,e3,hsx,hls,hNS⟩:=G4 g3
 simp only [Prod.mk.injEq] at hx
 have hd:Rows.uptoBulk d=Rows.uptoBulk y0.1+(Rows.uptoBulk y1.1+(Rows.uptoBulk y2.1+(Rows.uptoBulk y3.1+0)))+1:=by rw [hx.1]; rfl
 refine ⟨sd,A,m,c,R,NR,cR,a,nk,ck,X,Y,I,S,NS,cS,At,sx,?_,hsd,⟨hc1,hc2,hs1⟩,⟨hX,hY,hlr,hlk⟩,⟨hsx,hls⟩,by omega,by omega,λi=>?_,by omega⟩
 ·have q0:(cs.drop 0).take 32=sd.map bv:=e0
  have q1:(cs.drop 32).take 1=[.slice A m.length c]:=e1
  have q2:(cs.drop (32+1)).take 1=[.slice R NR cR]:=e2
  have q3:(cs.drop (32+1+1)).take 1=[.slice S NS cS]:=e3
  rw [s,q0,q1,q2,q3]
  rfl
 ·have:=hnk i
  omega
end Cu
end
section
namespace Cu
open Go.RowKit Sy
end Cu
end
section
namespace Cu
open Go.RowKit Sy
def C5 (z:Int) (x:Nat):Value:=.agg (Aq z x).toArray
section
variable {At Bt:Nat→Int} {sx sy:Nat→Nat} {NS NT:Nat}
end
end Cu
end
section
namespace Sc
open Go.RowKit Go.Lib
def pwI (x e:Nat):Nat:=x ^ e%pM
theorem IX (x e:Nat):pwI x e<(2^256):=mod_lt _
def sqI (x:Nat):Nat→Nat
 | 0=>x
 | n+1=>mulP (sqI x n) (sqI x n)
theorem ET (x n:Nat) (hx:x<(2^256)):sqI x n<(2^256):=by
 cases n with
 | zero=>exact hx
 | succ n=>exact Fu _ _
theorem LT (x:Nat):∀ n,sqI x n%pM=x ^ (2 ^ n)%pM
 | 0=>by rw [Nat.pow_zero,Nat.pow_one]; rfl
 | n+1=>by
  rw [sqI,mulP,Nat.mod_mod,Nat.mul_mod,LT x n, ← Nat.mul_mod, ← Nat.pow_add,Nat.pow_succ,Nat.mul_two]
theorem En (x e n:Nat):mulP (pwI x e) (sqI x n)=pwI x (e+2 ^ n):=by
 unfold mulP pwI
 rw [Nat.mod_mul_mod,Nat.mul_mod,LT, ← Nat.mul_mod, ← Nat.pow_add]
theorem Nn (x:Nat):pwI x 0=1:=by unfold pwI; rw [Nat.pow_zero]; decide
theorem P9 (a r s:Nat) (hs:s≤63):(a+18446744073709551616*r) / 2 ^ s%2=a / 2 ^ s%2:=by
 obtain ⟨u,hu⟩:∃ u,2 ^ s*(2*u)=18446744073709551616:=by
  refine ⟨2 ^ (63 - s),?_⟩
  have:2 ^ s*2 ^ (63 - s)=2 ^ 63:=by rw [← Nat.pow_add]; congr 1; omega
  rw [show (2:Nat)*2 ^ (63 - s)=2 ^ (63 - s)*2 from Nat.mul_comm _ _, ← Nat.mul_assoc,this]
 rw [← hu,Nat.mul_assoc,Nat.add_mul_div_left _ _ (Nat.two_pow_pos s),Nat.mul_assoc,Nat.add_mul_mod_self_left]
theorem Fv (e i s w r:Nat) (hz:e / 2 ^ (64*i)=w+18446744073709551616*r) (hs:s≤63):e%2 ^ (64*i+(s+1))=e%2 ^ (64*i+s)+2 ^ (64*i+s)*(w / 2 ^ s%2):=by
 have h1:e / 2 ^ (64*i+s)%2=w / 2 ^ s%2:=by
  rw [Nat.pow_add, ← Nat.div_div_eq_div_mul,hz,P9 w r s hs]
 rw [← h1, ← Nat.add_assoc,Nat.pow_succ,Nat.mod_mul]
theorem EE (a b:Nat):a+b*0=a:=rfl
theorem EF (a b:Nat):a+b*1=a+b:=by rw [Nat.mul_one]
theorem F0 (e s:Nat) (he:e<18446744073709551616):bits .and .u64 ((e:Int) / 2 ^ s) 1=((e / 2 ^ s%2:Nat):Int):=by
 have h:((e:Int) / 2 ^ s)=((e / 2 ^ s:Nat):Int):=by simp
 rw [h]
 exact L0 _ (Nat.lt_of_le_of_lt (Nat.div_le_self _ _) he)
theorem inv_any (w:World) (x:Nat) (hx:x<(2^256)):Calls Tryz.prog 169 #[fv x] w λe w'=>e=.returned (fv (pwI x (115792089237316195423570985008687907852837564279074904382605163141518161494337 - 2)))∧Below w.heap.size w w':=by
 obtain ⟨o,ho⟩:∃ o,o=115792089237316195423570985008687907852837564279074904382605163141518161494337:=⟨_,rfl⟩
 obtain ⟨two,h2⟩:∃ n,n=2:=⟨_,rfl⟩
 obtain ⟨one,h1⟩:∃ n,n=1:=⟨_,rfl⟩
 obtain ⟨e,he⟩:=xE (115792089237316195423570985008687907852837564279074904382605163141518161494337 - 2)
 rw [← he]
 have lo:o<(2^256):=om
 have le:e<(2^256):=om
 have co:=λw=>GT w o ho
 have c2:∀ w,Calls Tryz.prog 121 #[.int .u64 2] w λe w'=>e=.returned (fv two)∧Below w.heap.size w w':=λw=>of_at w two 2 (by rw [h2]; rfl) om
 have c1:∀ w,Calls Tryz.prog 121 #[.int .u64 1] w λe w'=>e=.returned (fv one)∧Below w.heap.size w w':=λw=>of_at w one 1 (by rw [h1]; rfl) om
 have cm:∀ w,Calls Tryz.prog 216 #[fv o,fv two] w λr w'=>r=.returned (.tuple #[fv e,.int .u64 ((0:Nat):Int)])∧Below w.heap.size w w':=λw=>Dn w o two e 0 lo om le om
 obtain ⟨e0,e1,e2,e3,b0,b1,b2,b3,ee,fe⟩:=Ah e le
 have n0:=λs hs=>Fv e 0 s e0 (e1+18446744073709551616*e2+340282366920938463463374607431768211456*e3) om hs
 have n1:=λs hs=>Fv e 1 s e1 (e2+18446744073709551616*e3) om hs
 have n2:=λs hs=>Fv e 2 s e2 e3 om hs
 have n3:=λs hs=>Fv e 3 s e3 0 om hs
 have HN:=Lib.hid (And.intro n0 (And.intro n1 (And.intro n2 n3)))
 have HB:=Lib.hid (And.intro b0 (And.intro b1 (And.intro b2 b3)))
 have HE:Hid (e%2 ^ (64*0)=0∧e%2 ^ (64*3+64)=e):=Lib.hid ⟨by omega,by omega⟩
 have FE:=Lib.hid fe
 have H1:=Lib.hid h1
 obtain ⟨x0,x1,x2,x3,fx⟩:=AY x hx
 have FX:=Lib.hid fx
 have HX:=Lib.hid hx
 rw [fx]
 clear fx hx ho h2 h1 he lo le b0 b1 b2 b3 ee fe n0 n1 n2 n3
 go_enter Tryz.func169,Tryz.ntmps169
 go_wp2_with fail
 refine (co _).mono ?_
 rintro r w1 ⟨rfl,k1⟩
 go_wp2_with fail
 refine (c2 _).mono ?_
 rintro r w2 ⟨rfl,k2⟩
 go_wp2_with fail
 refine (cm _).mono ?_
 rintro r w3 ⟨rfl,k3⟩
 have BX:=Gr.blk k3 (Gr.blk k2 (Gr.blk k1 ((Blk.new w _ _).alloc _)))
 have BR:=Gr.blk k3 (Gr.blk k2 (Gr.blk k1 (Aa w _ _ _)))
 have hB:=Below.gr (Below.gr (Below.gr (Ad w _ _) k1) k2) k3
 have sz3:w.heap.size+1<w3.heap.size:=BR.lt
 clear k1 k2 k3 co c2 cm
 go_wp2_with (first | ((with_reducible refine AE ?_); refine AB U _ _ _ U (w3.heap.size) (fcs (e)) U U _ _ (Blk.new w3 _ _) kZ (by rfl) (AF _) ?_; intro w4 hL4 hq4 hK4; have BX4:=hK4 _ om _ _ (BX.alloc _); have BR4:=hK4 _ om _ _ (BR.alloc _); have hB4:=(hB.alloc om _).trans (hq4 _ om)))
 refine (c1 _).mono ?_
 rintro r w5 ⟨rfl,k1⟩
 have BX:=Gr.blk k1 BX4
 have BR:=Gr.blk k1 BR4
 have BE:=Gr.blk k1 hL4
 have hB:=Below.gr hB4 k1
 have sz5:w3.heap.size<w5.heap.size:=BE.lt
 clear k1 c1
 go_wp2_with (first | ((with_reducible refine AE ?_); refine AB U _ _ _ U (w5.heap.size) (fcs (one)) U U _ _ (Blk.new w5 _ _) kZ (by rfl) (AF _) ?_; intro w6 hL6 hq6 hK6; have BX6:=hK6 _ om _ _ (BX.alloc _); have BR6:=hK6 _ om _ _ (BR.alloc _); have BE6:=hK6 _ om _ _ (BE.alloc _); have hB6:=(hB.alloc om _).trans (hq6 _ om)) | ((with_reducible refine AC (d:=some 16) ?_); refine AA U _ _ U (w3.heap.size) rfl (e) _ _ _ (BE6) (AG e) Ab U kZ ?_))
 have BXa:Blk w6 w.heap.size 42 (fcs x):=BX6.eq_ (BA FX.out).symm
 have BPa:Blk w6 w5.heap.size 42 (fcs (pwI x (e%2 ^ (64*0)))):=hL6.eq_ (by rw [HE.out.1,Nn,H1.out])
 clear BX6 hL6
 rw [FE.out]
 have ie0:∀ W,(Instr.index 42 (.agg #[.int .u64 (e0:Int),.int .u64 (e1:Int),.int .u64 (e2:Int),.int .u64 (e3:Int)]) (.int .i64 0)).run Tryz.prog W=.ok (.int .u64 (e0:Int)) W:=λW=>by kernel_rfl
 have ie1:∀ W,(Instr.index 42 (.agg #[.int .u64 (e0:Int),.int .u64 (e1:Int),.int .u64 (e2:Int),.int .u64 (e3:Int)]) (.int .i64 1)).run Tryz.prog W=.ok (.int .u64 (e1:Int)) W:=λW=>by kernel_rfl
 have ie2:∀ W,(Instr.index 42 (.agg #[.int .u64 (e0:Int),.int .u64 (e1:Int),.int .u64 (e2:Int),.int .u64 (e3:Int)]) (.int .i64 2)).run Tryz.prog W=.ok (.int .u64 (e2:Int)) W:=λW=>by kernel_rfl
 have ie3:∀ W,(Instr.index 42 (.agg #[.int .u64 (e0:Int),.int .u64 (e1:Int),.int .u64 (e2:Int),.int .u64 (e3:Int)]) (.int .i64 3)).run Tryz.prog W=.ok (.int .u64 (e3:Int)) W:=λW=>by kernel_rfl
 go_loopw [17] (λi wr=>Below w.heap.size w wr∧Blk wr (w.heap.size+1) 42 #[.int .u64 0,.int .u64 0,.int .u64 0,.int .u64 0]∧Hid ((i=.int .i64 0∧Blk wr w.heap.size 42 (fcs x)∧Blk wr w5.heap.size 42 (fcs (pwI x (e%2 ^ (64*0)))))∨(i=.int .i64 1∧Blk wr w.heap.size 42 (fcs (sqI x (64*1)))∧Blk wr w5.heap.size 42 (fcs (pwI x (e%2 ^ (64*1)))))∨(i=.int .i64 2∧Blk wr w.heap.size 42 (fcs (sqI x (64*2)))∧Blk wr w5.heap.size 42 (fcs (pwI x (e%2 ^ (64*2)))))∨(i=.int .i64 3∧Blk wr w.heap.size 42 (fcs (sqI x (64*3)))∧Blk wr w5.heap.size 42 (fcs (pwI x (e%2 ^ (64*3)))))∨(i=.int .i64 4∧Blk wr w.heap.size 42 (fcs (sqI x (64*3+64)))∧Blk wr w5.heap.size 42 (fcs (pwI x (e%2 ^ (64*3+64))))))) (λi _=>4 - (intOf i).toNat)
 case atStart=>exact ⟨hB6,BR6,Lib.hid (.inl ⟨rfl,BXa,BPa⟩)⟩
 case round =>
  obtain ⟨hb,BR,HI⟩:=hrel
  rcases HI.out with ⟨rfl,BX,BP⟩ | ⟨rfl,BX,BP⟩ | ⟨rfl,BX,BP⟩ | ⟨rfl,BX,BP⟩ | ⟨rfl,BX,BP⟩
  ·clear HI
   go_wp2_with fail
   go_loopw [20] (λjv wr=>∃ t av pv:Nat,t≤64∧jv=.int .i64 (t:Int)∧Hid (av=sqI x (64*0+t)∧pv=pwI x (e%2 ^ (64*0+t)))∧Below w.heap.size w wr∧Blk wr (w.heap.size+1) 42 #[.int .u64 0,.int .u64 0,.int .u64 0,.int .u64 0]∧Blk wr w.heap.size 42 (fcs av)∧Blk wr w5.heap.size 42 (fcs pv)) (λjv _=>64 - (intOf jv).toNat)
   case atStart=>exact ⟨0,_,_,by omega,rfl,Lib.hid ⟨rfl,rfl⟩,hb,BR,BX,BP⟩
   case round =>
    clear hb BR BX BP
    obtain ⟨t,av,pv,ht,rfl,HV,hb,BR,BX,BP⟩:=hrel
    by_cases hlt:t<64
    ·have p1:(t:Int)<64:=om
     have lav:av<(2^256):=by rw [HV.out.1]; exact ET x _ HX.out
     have lpv:pv<(2^256):=by rw [HV.out.2]; exact IX _ _
     obtain ⟨m,hm⟩:=xE (e0 / 2 ^ t%2)
     have ha:bits .and .u64 ((e0:Int) / 2 ^ t) 1=(m:Int):=by rw [hm]; exact F0 e0 t HB.out.1
     have hml:m<2:=om
     obtain ⟨sv,hsv⟩:=xE (mulP av av)
     obtain ⟨qv',hqv⟩:∃ s,s=mulP pv av:=⟨_,rfl⟩
     have cS:∀ w,Calls Tryz.prog 104 #[fv av,fv av] w λr w'=>r=.returned (fv sv)∧Below w.heap.size w w':=by
      intro w; rw [hsv]; exact mulF_any w av av lav lav
     have cP:∀ w,Calls Tryz.prog 104 #[fv pv,fv av] w λr w'=>r=.returned (fv qv')∧Below w.heap.size w w':=by
      intro w; rw [hqv]; exact mulF_any w pv av lpv lav
     have hd:=HN.out.1 t om
     have hs1:sv=sqI x (64*0+(t+1)):=by rw [hsv,HV.out.1]; rfl
     have hp0:m=0→pv=pwI x (e%2 ^ (64*0+(t+1))):=λh=>by rw [hd, ← hm,h,EE]; exact HV.out.2
     have hp1:m=1→qv'=pwI x (e%2 ^ (64*0+(t+1))):=λh=>by rw [hd, ← hm,h,EF, ← En,hqv,HV.out.1,HV.out.2]
     have HP:=Lib.hid (And.intro hs1 (And.intro hp0 (And.intro hp1 hlt)))
     have lX:=BX.lt
     have lP:=BP.lt
     have szp:w3.heap.size<w5.heap.size:=sz5
     clear hm hsv hqv lav lpv hd hs1 hp0 hp1 hlt ht
     rcases (show m=0∨m=1 by omega) with rfl | rfl
     ·clear cP hml
      go_wp2_with (first | ((with_reducible refine AC (d:=some 31) ?_); refine AA U _ _ U (w.heap.size) rfl (av) _ _ _ (BX) (AG _) Ab U kZ ?_) | ((with_reducible refine AC (d:=some 32) ?_); refine AA U _ _ U (w.heap.size) rfl (av) _ _ _ (BX) (AG _) Ab U kZ ?_))
      refine (cS _).mono ?_
      rintro r u ⟨rfl,gu⟩
      have CX:=Gr.blk gu BX
      have CP:=Gr.blk gu BP
      have CR:=Gr.blk gu BR
      have hbu:=Below.gr hb gu
      clear gu cS BX BP BR hb ha
      go_wp2_with (first | ((with_reducible refine AE ?_); refine AB U _ _ _ U (w.heap.size) (fcs (sv)) U U _ _ (CX) kZ (by rfl) (AF _) ?_; intro u9 hL9 hq9 hK9))
      go_roundw
      case rel=>exact ⟨t+1,sv,pv,by have:=HP.out.2.2.2; omega,by simp,Lib.hid ⟨HP.out.1,HP.out.2.1 (by simp)⟩,hbu.trans (hq9 _ om),hK9 _ om _ _ CR,hL9,hK9 _ om _ _ CP⟩
      case measure=>have:=HP.out.2.2.2; simp [intOf]; omega
     ·clear hml
      go_wp2_with (first | ((with_reducible refine AC (d:=some 28) ?_); refine AA U _ _ U (w5.heap.size) rfl (pv) _ _ _ (BP) (AG _) Ab U kZ ?_) | ((with_reducible refine AC (d:=some 29) ?_); refine AA U _ _ U (w.heap.size) rfl (av) _ _ _ (BX) (AG _) Ab U kZ ?_))
      refine (cP _).mono ?_
      rintro r u ⟨rfl,gu⟩
      have CX:=Gr.blk gu BX
      have CP:=Gr.blk gu BP
      have CR:=Gr.blk gu BR
      have hbu:=Below.gr hb gu
      clear gu cP BX BP BR hb ha
      go_wp2_with (first | ((with_reducible refine AE ?_); refine AB U _ _ _ U (w5.heap.size) (fcs (qv')) U U _ _ (CP) kZ (by rfl) (AF _) ?_; intro u8 hL8 hq8 hK8; have DX:=hK8 _ om _ _ CX; have DR:=hK8 _ om _ _ CR; have hb8:=hbu.trans (hq8 _ om)) | ((with_reducible refine AC (d:=some 31) ?_); refine AA U _ _ U (w.heap.size) rfl (av) _ _ _ (DX) (AG _) Ab U kZ ?_) | ((with_reducible refine AC (d:=some 32) ?_); refine AA U _ _ U (w.heap.size) rfl (av) _ _ _ (DX) (AG _) Ab U kZ ?_))
      refine (cS _).mono ?_
      rintro r u2 ⟨rfl,gu⟩
      have EX:=Gr.blk gu DX
      have EP:=Gr.blk gu hL8
      have ER:=Gr.blk gu DR
      have hbe:=Below.gr hb8 gu
      clear gu cS DX hL8 DR hb8
      go_wp2_with (first | ((with_reducible refine AE ?_); refine AB U _ _ _ U (w.heap.size) (fcs (sv)) U U _ _ (EX) kZ (by rfl) (AF _) ?_; intro u9 hL9 hq9 hK9))
      go_roundw
      case rel=>exact ⟨t+1,sv,qv',by have:=HP.out.2.2.2; omega,by simp,Lib.hid ⟨HP.out.1,HP.out.2.2.1 (by simp)⟩,hbe.trans (hq9 _ om),hK9 _ om _ _ ER,hL9,hK9 _ om _ _ EP⟩
      case measure=>have:=HP.out.2.2.2; simp [intOf]; omega
    ·have p1:¬ (t:Int)<64:=om
     obtain rfl:t=64:=om
     have BXn:Blk wr w.heap.size 42 (fcs (sqI x (64*1))):=BX.eq_ (by rw [HV.out.1])
     have BPn:Blk wr w5.heap.size 42 (fcs (pwI x (e%2 ^ (64*1)))):=BP.eq_ (by rw [HV.out.2])
     clear BX BP HV hlt ht
     go_wp2
     refine ⟨⟨hb,BR,Lib.hid (.inr (.inl (⟨rfl,BXn,BPn⟩)))⟩,by decide⟩
  ·clear HI
   go_wp2_with fail
   go_loopw [20] (λjv wr=>∃ t av pv:Nat,t≤64∧jv=.int .i64 (t:Int)∧Hid (av=sqI x (64*1+t)∧pv=pwI x (e%2 ^ (64*1+t)))∧Below w.heap.size w wr∧Blk wr (w.heap.size+1) 42 #[.int .u64 0,.int .u64 0,.int .u64 0,.int .u64 0]∧Blk wr w.heap.size 42 (fcs av)∧Blk wr w5.heap.size 42 (fcs pv)) (λjv _=>64 - (intOf jv).toNat)
   case atStart=>exact ⟨0,_,_,by omega,rfl,Lib.hid ⟨rfl,rfl⟩,hb,BR,BX,BP⟩
   case round =>
    clear hb BR BX BP
    obtain ⟨t,av,pv,ht,rfl,HV,hb,BR,BX,BP⟩:=hrel
    by_cases hlt:t<64
    ·have p1:(t:Int)<64:=om
     have lav:av<(2^256):=by rw [HV.out.1]; exact ET x _ HX.out
     have lpv:pv<(2^256):=by rw [HV.out.2]; exact IX _ _
     obtain ⟨m,hm⟩:=xE (e1 / 2 ^ t%2)
     have ha:bits .and .u64 ((e1:Int) / 2 ^ t) 1=(m:Int):=by rw [hm]; exact F0 e1 t HB.out.2.1
     have hml:m<2:=om
     obtain ⟨sv,hsv⟩:=xE (mulP av av)
     obtain ⟨qv',hqv⟩:∃ s,s=mulP pv av:=⟨_,rfl⟩
     have cS:∀ w,Calls Tryz.prog 104 #[fv av,fv av] w λr w'=>r=.returned (fv sv)∧Below w.heap.size w w':=by
      intro w; rw [hsv]; exact mulF_any w av av lav lav
     have cP:∀ w,Calls Tryz.prog 104 #[fv pv,fv av] w λr w'=>r=.returned (fv qv')∧Below w.heap.size w w':=by
      intro w; rw [hqv]; exact mulF_any w pv av lpv lav
     have hd:=HN.out.2.1 t om
     have hs1:sv=sqI x (64*1+(t+1)):=by rw [hsv,HV.out.1]; rfl
     have hp0:m=0→pv=pwI x (e%2 ^ (64*1+(t+1))):=λh=>by rw [hd, ← hm,h,EE]; exact HV.out.2
     have hp1:m=1→qv'=pwI x (e%2 ^ (64*1+(t+1))):=λh=>by rw [hd, ← hm,h,EF, ← En,hqv,HV.out.1,HV.out.2]
     have HP:=Lib.hid (And.intro hs1 (And.intro hp0 (And.intro hp1 hlt)))
     have lX:=BX.lt
     have lP:=BP.lt
     have szp:w3.heap.size<w5.heap.size:=sz5
     clear hm hsv hqv lav lpv hd hs1 hp0 hp1 hlt ht
     rcases (show m=0∨m=1 by omega) with rfl | rfl
     ·clear cP hml
      go_wp2_with (first | ((with_reducible refine AC (d:=some 31) ?_); refine AA U _ _ U (w.heap.size) rfl (av) _ _ _ (BX) (AG _) Ab U kZ ?_) | ((with_reducible refine AC (d:=some 32) ?_); refine AA U _ _ U (w.heap.size) rfl (av) _ _ _ (BX) (AG _) Ab U kZ ?_))
      refine (cS _).mono ?_
      rintro r u ⟨rfl,gu⟩
      have CX:=Gr.blk gu BX
      have CP:=Gr.blk gu BP
      have CR:=Gr.blk gu BR
      have hbu:=Below.gr hb gu
      clear gu cS BX BP BR hb ha
      go_wp2_with (first | ((with_reducible refine AE ?_); refine AB U _ _ _ U (w.heap.size) (fcs (sv)) U U _ _ (CX) kZ (by rfl) (AF _) ?_; intro u9 hL9 hq9 hK9))
      go_roundw
      case rel=>exact ⟨t+1,sv,pv,by have:=HP.out.2.2.2; omega,by simp,Lib.hid ⟨HP.out.1,HP.out.2.1 (by simp)⟩,hbu.trans (hq9 _ om),hK9 _ om _ _ CR,hL9,hK9 _ om _ _ CP⟩
      case measure=>have:=HP.out.2.2.2; simp [intOf]; omega
     ·clear hml
      go_wp2_with (first | ((with_reducible refine AC (d:=some 28) ?_); refine AA U _ _ U (w5.heap.size) rfl (pv) _ _ _ (BP) (AG _) Ab U kZ ?_) | ((with_reducible refine AC (d:=some 29) ?_); refine AA U _ _ U (w.heap.size) rfl (av) _ _ _ (BX) (AG _) Ab U kZ ?_))
      refine (cP _).mono ?_
      rintro r u ⟨rfl,gu⟩
      have CX:=Gr.blk gu BX
      have CP:=Gr.blk gu BP
      have CR:=Gr.blk gu BR
      have hbu:=Below.gr hb gu
      clear gu cP BX BP BR hb ha
      go_wp2_with (first | ((with_reducible refine AE ?_); refine AB U _ _ _ U (w5.heap.size) (fcs (qv')) U U _ _ (CP) kZ (by rfl) (AF _) ?_; intro u8 hL8 hq8 hK8; have DX:=hK8 _ om _ _ CX; have DR:=hK8 _ om _ _ CR; have hb8:=hbu.trans (hq8 _ om)) | ((with_reducible refine AC (d:=some 31) ?_); refine AA U _ _ U (w.heap.size) rfl (av) _ _ _ (DX) (AG _) Ab U kZ ?_) | ((with_reducible refine AC (d:=some 32) ?_); refine AA U _ _ U (w.heap.size) rfl (av) _ _ _ (DX) (AG _) Ab U kZ ?_))
      refine (cS _).mono ?_
      rintro r u2 ⟨rfl,gu⟩
      have EX:=Gr.blk gu DX
      have EP:=Gr.blk gu hL8
      have ER:=Gr.blk gu DR
      have hbe:=Below.gr hb8 gu
      clear gu cS DX hL8 DR hb8
      go_wp2_with (first | ((with_reducible refine AE ?_); refine AB U _ _ _ U (w.heap.size) (fcs (sv)) U U _ _ (EX) kZ (by rfl) (AF _) ?_; intro u9 hL9 hq9 hK9))
      go_roundw
      case rel=>exact ⟨t+1,sv,qv',by have:=HP.out.2.2.2; omega,by simp,Lib.hid ⟨HP.out.1,HP.out.2.2.1 (by simp)⟩,hbe.trans (hq9 _ om),hK9 _ om _ _ ER,hL9,hK9 _ om _ _ EP⟩
      case measure=>have:=HP.out.2.2.2; simp [intOf]; omega
    ·have p1:¬ (t:Int)<64:=om
     obtain rfl:t=64:=om
     have BXn:Blk wr w.heap.size 42 (fcs (sqI x (64*2))):=BX.eq_ (by rw [HV.out.1])
     have BPn:Blk wr w5.heap.size 42 (fcs (pwI x (e%2 ^ (64*2)))):=BP.eq_ (by rw [HV.out.2])
     clear BX BP HV hlt ht
     go_wp2
     refine ⟨⟨hb,BR,Lib.hid (.inr (.inr (.inl (⟨rfl,BXn,BPn⟩))))⟩,by decide⟩
  ·clear HI
   go_wp2_with fail
   go_loopw [20] (λjv wr=>∃ t av pv:Nat,t≤64∧jv=.int .i64 (t:Int)∧Hid (av=sqI x (64*2+t)∧pv=pwI x (e%2 ^ (64*2+t)))∧Below w.heap.size w wr∧Blk wr (w.heap.size+1) 42 #[.int .u64 0,.int .u64 0,.int .u64 0,.int .u64 0]∧Blk wr w.heap.size 42 (fcs av)∧Blk wr w5.heap.size 42 (fcs pv)) (λjv _=>64 - (intOf jv).toNat)
   case atStart=>exact ⟨0,_,_,by omega,rfl,Lib.hid ⟨rfl,rfl⟩,hb,BR,BX,BP⟩
   case round =>
    clear hb BR BX BP
    obtain ⟨t,av,pv,ht,rfl,HV,hb,BR,BX,BP⟩:=hrel
    by_cases hlt:t<64
    ·have p1:(t:Int)<64:=om
     have lav:av<(2^256):=by rw [HV.out.1]; exact ET x _ HX.out
     have lpv:pv<(2^256):=by rw [HV.out.2]; exact IX _ _
     obtain ⟨m,hm⟩:=xE (e2 / 2 ^ t%2)
     have ha:bits .and .u64 ((e2:Int) / 2 ^ t) 1=(m:Int):=by rw [hm]; exact F0 e2 t HB.out.2.2.1
     have hml:m<2:=om
     obtain ⟨sv,hsv⟩:=xE (mulP av av)
     obtain ⟨qv',hqv⟩:∃ s,s=mulP pv av:=⟨_,rfl⟩
     have cS:∀ w,Calls Tryz.prog 104 #[fv av,fv av] w λr w'=>r=.returned (fv sv)∧Below w.heap.size w w':=by
      intro w; rw [hsv]; exact mulF_any w av av lav lav
     have cP:∀ w,Calls Tryz.prog 104 #[fv pv,fv av] w λr w'=>r=.returned (fv qv')∧Below w.heap.size w w':=by
      intro w; rw [hqv]; exact mulF_any w pv av lpv lav
     have hd:=HN.out.2.2.1 t om
     have hs1:sv=sqI x (64*2+(t+1)):=by rw [hsv,HV.out.1]; rfl
     have hp0:m=0→pv=pwI x (e%2 ^ (64*2+(t+1))):=λh=>by rw [hd, ← hm,h,EE]; exact HV.out.2
     have hp1:m=1→qv'=pwI x (e%2 ^ (64*2+(t+1))):=λh=>by rw [hd, ← hm,h,EF, ← En,hqv,HV.out.1,HV.out.2]
     have HP:=Lib.hid (And.intro hs1 (And.intro hp0 (And.intro hp1 hlt)))
     have lX:=BX.lt
     have lP:=BP.lt
     have szp:w3.heap.size<w5.heap.size:=sz5
     clear hm hsv hqv lav lpv hd hs1 hp0 hp1 hlt ht
     rcases (show m=0∨m=1 by omega) with rfl | rfl
     ·clear cP hml
      go_wp2_with (first | ((with_reducible refine AC (d:=some 31) ?_); refine AA U _ _ U (w.heap.size) rfl (av) _ _ _ (BX) (AG _) Ab U kZ ?_) | ((with_reducible refine AC (d:=some 32) ?_); refine AA U _ _ U (w.heap.size) rfl (av) _ _ _ (BX) (AG _) Ab U kZ ?_))
      refine (cS _).mono ?_
      rintro r u ⟨rfl,gu⟩
      have CX:=Gr.blk gu BX
      have CP:=Gr.blk gu BP
      have CR:=Gr.blk gu BR
      have hbu:=Below.gr hb gu
      clear gu cS BX BP BR hb ha
      go_wp2_with (first | ((with_reducible refine AE ?_); refine AB U _ _ _ U (w.heap.size) (fcs (sv)) U U _ _ (CX) kZ (by rfl) (AF _) ?_; intro u9 hL9 hq9 hK9))
      go_roundw
      case rel=>exact ⟨t+1,sv,pv,by have:=HP.out.2.2.2; omega,by simp,Lib.hid ⟨HP.out.1,HP.out.2.1 (by simp)⟩,hbu.trans (hq9 _ om),hK9 _ om _ _ CR,hL9,hK9 _ om _ _ CP⟩
      case measure=>have:=HP.out.2.2.2; simp [intOf]; omega
     ·clear hml
      go_wp2_with (first | ((with_reducible refine AC (d:=some 28) ?_); refine AA U _ _ U (w5.heap.size) rfl (pv) _ _ _ (BP) (AG _) Ab U kZ ?_) | ((with_reducible refine AC (d:=some 29) ?_); refine AA U _ _ U (w.heap.size) rfl (av) _ _ _ (BX) (AG _) Ab U kZ ?_))
      refine (cP _).mono ?_
      rintro r u ⟨rfl,gu⟩
      have CX:=Gr.blk gu BX
      have CP:=Gr.blk gu BP
      have CR:=Gr.blk gu BR
      have hbu:=Below.gr hb gu
      clear gu cP BX BP BR hb ha
      go_wp2_with (first | ((with_reducible refine AE ?_); refine AB U _ _ _ U (w5.heap.size) (fcs (qv')) U U _ _ (CP) kZ (by rfl) (AF _) ?_; intro u8 hL8 hq8 hK8; have DX:=hK8 _ om _ _ CX; have DR:=hK8 _ om _ _ CR; have hb8:=hbu.trans (hq8 _ om)) | ((with_reducible refine AC (d:=some 31) ?_); refine AA U _ _ U (w.heap.size) rfl (av) _ _ _ (DX) (AG _) Ab U kZ ?_) | ((with_reducible refine AC (d:=some 32) ?_); refine AA U _ _ U (w.heap.size) rfl (av) _ _ _ (DX) (AG _) Ab U kZ ?_))
      refine (cS _).mono ?_
      rintro r u2 ⟨rfl,gu⟩
      have EX:=Gr.blk gu DX
      have EP:=Gr.blk gu hL8
      have ER:=Gr.blk gu DR
      have hbe:=Below.gr hb8 gu
      clear gu cS DX hL8 DR hb8
      go_wp2_with (first | ((with_reducible refine AE ?_); refine AB U _ _ _ U (w.heap.size) (fcs (sv)) U U _ _ (EX) kZ (by rfl) (AF _) ?_; intro u9 hL9 hq9 hK9))
      go_roundw
      case rel=>exact ⟨t+1,sv,qv',by have:=HP.out.2.2.2; omega,by simp,Lib.hid ⟨HP.out.1,HP.out.2.2.1 (by simp)⟩,hbe.trans (hq9 _ om),hK9 _ om _ _ ER,hL9,hK9 _ om _ _ EP⟩
      case measure=>have:=HP.out.2.2.2; simp [intOf]; omega
    ·have p1:¬ (t:Int)<64:=om
     obtain rfl:t=64:=om
     have BXn:Blk wr w.heap.size 42 (fcs (sqI x (64*3))):=BX.eq_ (by rw [HV.out.1])
     have BPn:Blk wr w5.heap.size 42 (fcs (pwI x (e%2 ^ (64*3)))):=BP.eq_ (by rw [HV.out.2])
     clear BX BP HV hlt ht
     go_wp2
     refine ⟨⟨hb,BR,Lib.hid (.inr (.inr (.inr (.inl (⟨rfl,BXn,BPn⟩)))))⟩,by decide⟩
  ·clear HI
   go_wp2_with fail
   go_loopw [20] (λjv wr=>∃ t av pv:Nat,t≤64∧jv=.int .i64 (t:Int)∧Hid (av=sqI x (64*3+t)∧pv=pwI x (e%2 ^ (64*3+t)))∧Below w.heap.size w wr∧Blk wr (w.heap.size+1) 42 #[.int .u64 0,.int .u64 0,.int .u64 0,.int .u64 0]∧Blk wr w.heap.size 42 (fcs av)∧Blk wr w5.heap.size 42 (fcs pv)) (λjv _=>64 - (intOf jv).toNat)
   case atStart=>exact ⟨0,_,_,by omega,rfl,Lib.hid ⟨rfl,rfl⟩,hb,BR,BX,BP⟩
   case round =>
    clear hb BR BX BP
    obtain ⟨t,av,pv,ht,rfl,HV,hb,BR,BX,BP⟩:=hrel
    by_cases hlt:t<64
    ·have p1:(t:Int)<64:=om
     have lav:av<(2^256):=by rw [HV.out.1]; exact ET x _ HX.out
     have lpv:pv<(2^256):=by rw [HV.out.2]; exact IX _ _
     obtain ⟨m,hm⟩:=xE (e3 / 2 ^ t%2)
     have ha:bits .and .u64 ((e3:Int) / 2 ^ t) 1=(m:Int):=by rw [hm]; exact F0 e3 t HB.out.2.2.2
     have hml:m<2:=om
     obtain ⟨sv,hsv⟩:=xE (mulP av av)
     obtain ⟨qv',hqv⟩:∃ s,s=mulP pv av:=⟨_,rfl⟩
     have cS:∀ w,Calls Tryz.prog 104 #[fv av,fv av] w λr w'=>r=.returned (fv sv)∧Below w.heap.size w w':=by
      intro w; rw [hsv]; exact mulF_any w av av lav lav
     have cP:∀ w,Calls Tryz.prog 104 #[fv pv,fv av] w λr w'=>r=.returned (fv qv')∧Below w.heap.size w w':=by
      intro w; rw [hqv]; exact mulF_any w pv av lpv lav
     have hd:=HN.out.2.2.2 t om
     have hs1:sv=sqI x (64*3+(t+1)):=by rw [hsv,HV.out.1]; rfl
     have hp0:m=0→pv=pwI x (e%2 ^ (64*3+(t+1))):=λh=>by rw [hd, ← hm,h,EE]; exact HV.out.2
     have hp1:m=1→qv'=pwI x (e%2 ^ (64*3+(t+1))):=λh=>by rw [hd, ← hm,h,EF, ← En,hqv,HV.out.1,HV.out.2]
     have HP:=Lib.hid (And.intro hs1 (And.intro hp0 (And.intro hp1 hlt)))
     have lX:=BX.lt
     have lP:=BP.lt
     have szp:w3.heap.size<w5.heap.size:=sz5
     clear hm hsv hqv lav lpv hd hs1 hp0 hp1 hlt ht
     rcases (show m=0∨m=1 by omega) with rfl | rfl
     ·clear cP hml
      go_wp2_with (first | ((with_reducible refine AC (d:=some 31) ?_); refine AA U _ _ U (w.heap.size) rfl (av) _ _ _ (BX) (AG _) Ab U kZ ?_) | ((with_reducible refine AC (d:=some 32) ?_); refine AA U _ _ U (w.heap.size) rfl (av) _ _ _ (BX) (AG _) Ab U kZ ?_))
      refine (cS _).mono ?_
      rintro r u ⟨rfl,gu⟩
      have CX:=Gr.blk gu BX
      have CP:=Gr.blk gu BP
      have CR:=Gr.blk gu BR
      have hbu:=Below.gr hb gu
      clear gu cS BX BP BR hb ha
      go_wp2_with (first | ((with_reducible refine AE ?_); refine AB U _ _ _ U (w.heap.size) (fcs (sv)) U U _ _ (CX) kZ (by rfl) (AF _) ?_; intro u9 hL9 hq9 hK9))
      go_roundw
      case rel=>exact ⟨t+1,sv,pv,by have:=HP.out.2.2.2; omega,by simp,Lib.hid ⟨HP.out.1,HP.out.2.1 (by simp)⟩,hbu.trans (hq9 _ om),hK9 _ om _ _ CR,hL9,hK9 _ om _ _ CP⟩
      case measure=>have:=HP.out.2.2.2; simp [intOf]; omega
     ·clear hml
      go_wp2_with (first | ((with_reducible refine AC (d:=some 28) ?_); refine AA U _ _ U (w5.heap.size) rfl (pv) _ _ _ (BP) (AG _) Ab U kZ ?_) | ((with_reducible refine AC (d:=some 29) ?_); refine AA U _ _ U (w.heap.size) rfl (av) _ _ _ (BX) (AG _) Ab U kZ ?_))
      refine (cP _).mono ?_
      rintro r u ⟨rfl,gu⟩
      have CX:=Gr.blk gu BX
      have CP:=Gr.blk gu BP
      have CR:=Gr.blk gu BR
      have hbu:=Below.gr hb gu
      clear gu cP BX BP BR hb ha
      go_wp2_with (first | ((with_reducible refine AE ?_); refine AB U _ _ _ U (w5.heap.size) (fcs (qv')) U U _ _ (CP) kZ (by rfl) (AF _) ?_; intro u8 hL8 hq8 hK8; have DX:=hK8 _ om _ _ CX; have DR:=hK8 _ om _ _ CR; have hb8:=hbu.trans (hq8 _ om)) | ((with_reducible refine AC (d:=some 31) ?_); refine AA U _ _ U (w.heap.size) rfl (av) _ _ _ (DX) (AG _) Ab U kZ ?_) | ((with_reducible refine AC (d:=some 32) ?_); refine AA U _ _ U (w.heap.size) rfl (av) _ _ _ (DX) (AG _) Ab U kZ ?_))
      refine (cS _).mono ?_
      rintro r u2 ⟨rfl,gu⟩
      have EX:=Gr.blk gu DX
      have EP:=Gr.blk gu hL8
      have ER:=Gr.blk gu DR
      have hbe:=Below.gr hb8 gu
      clear gu cS DX hL8 DR hb8
      go_wp2_with (first | ((with_reducible refine AE ?_); refine AB U _ _ _ U (w.heap.size) (fcs (sv)) U U _ _ (EX) kZ (by rfl) (AF _) ?_; intro u9 hL9 hq9 hK9))
      go_roundw
      case rel=>exact ⟨t+1,sv,qv',by have:=HP.out.2.2.2; omega,by simp,Lib.hid ⟨HP.out.1,HP.out.2.2.1 (by simp)⟩,hbe.trans (hq9 _ om),hK9 _ om _ _ ER,hL9,hK9 _ om _ _ EP⟩
      case measure=>have:=HP.out.2.2.2; simp [intOf]; omega
    ·have p1:¬ (t:Int)<64:=om
     obtain rfl:t=64:=om
     have BXn:Blk wr w.heap.size 42 (fcs (sqI x (64*3+64))):=BX.eq_ (by rw [HV.out.1])
     have BPn:Blk wr w5.heap.size 42 (fcs (pwI x (e%2 ^ (64*3+64)))):=BP.eq_ (by rw [HV.out.2])
     clear BX BP HV hlt ht
     go_wp2
     refine ⟨⟨hb,BR,Lib.hid (.inr (.inr (.inr (.inr (⟨rfl,BXn,BPn⟩)))))⟩,by decide⟩
  ·clear HI
   obtain ⟨z,hz⟩:=xE (pwI x e)
   have BZ:Blk wr w5.heap.size 42 (fcs z):=BP.eq_ (by rw [HE.out.2,hz])
   have HZ:=Lib.hid hz
   clear hz BP
   go_wp2_with (first | ((with_reducible refine AC (d:=some 36) ?_); refine AA U _ _ U (w5.heap.size) rfl (z) _ _ _ (BZ) (AG _) Ab U kZ ?_) | ((with_reducible refine AE ?_); refine AB U _ _ _ U (w.heap.size+1) (fcs (z)) U U _ _ (BR) kZ (by rfl) (AF _) ?_; intro u9 hL9 hq9 hK9))
   exact bodyPost_ret (results_cell_row U _ _ (w.heap.size+1) _ _ (0,0) _ U hL9 Ab U kZ) rfl ⟨by rw [← HZ.out]; rfl,hb.trans (hq9 _ om)⟩
end Sc
end
section
namespace Sc
open Go.RowKit Go.Lib
def pw (x e:Nat):Nat:=x ^ e%pM
theorem pw_lt (x e:Nat):pw x e<(2^256):=mod_lt _
end Sc
end
section
namespace Cu
open Go.RowKit Sy
noncomputable def ivS (a:Nat):Nat:=Sc.pw a (115792089237316195423570985008687907852837564279074904382605163141518161494337 - 2)
theorem RK (a:Nat):ivS a<K4:=Sc.pw_lt _ _
theorem Pq (w:World) (a:Nat) (ha:a<K4):Calls Tryz.prog 169 #[fv a] w (Gets w (fv (ivS a))):=Sc.inv_any w a ha
end Cu
end
section
namespace Cu
open Go.RowKit Sy
theorem D0 (z:Int) (x:Nat):∀ u∈Aq z x,u.oneCell'=true:=λu hu=>by
 rcases List.mem_cons.1 hu with rfl | h
 ·rfl
 ·exact DT _ u h
def Cb (f:Nat→Bool):Nat→Nat
 | 0=>0
 | n+1=>if Cb f n<n then Cb f n else if f n then n+1 else n
theorem Fa (f:Nat→Bool):∀ n,Cb f n≤n∧(∀ j,j<Cb f n→f j=true)∧(Cb f n<n→f (Cb f n)=false)
 | 0=>⟨Nat.le_refl _,λ_ h=>absurd h (Nat.not_lt_zero _),λh=>absurd h (Nat.lt_irrefl _)⟩
 | n+1=>by
  obtain ⟨h1,h2,h3⟩:=Fa f n
  unfold Cb
  by_cases h:Cb f n<n
  ·rw [if_pos h]
   exact ⟨by omega,h2,λ_=>h3 h⟩
  ·rw [if_neg h]
   have e:Cb f n=n:=om
   rw [e] at h2
   cases hf:f n with
   | true=>exact ⟨Nat.le_refl _,λj hj=>(Nat.lt_succ_iff_lt_or_eq.1 hj).elim (h2 j) (λh=>by rw [h]; exact hf),λh=>absurd h (Nat.lt_irrefl _)⟩
   | false=>exact ⟨Nat.le_succ _,h2,λ_=>hf⟩
theorem Mo {f:Nat→Bool} {n a:Nat} (h1:a≤n) (h2:∀ j,j<a→f j=true) (h3:a<n→f a=false):Cb f n=a:=by
 obtain ⟨q1,q2,q3⟩:=Fa f n
 rcases Nat.lt_trichotomy (Cb f n) a with h | h | h
 ·have e1:=q3 om
  rw [h2 _ h] at e1
  cases e1
 ·exact h
 ·have e1:=h3 om
  rw [q2 _ h] at e1
  cases e1
section
variable (bm sd:List UInt8) (i:Nat) (s:Nat→Nat)
def atI (n:Nat):Nat:=Cb (λj=>decide (s j=rgF bm sd i j)) n
theorem LD {n a:Nat} (h1:a≤n) (h2:∀ j,j<a→s j=rgF bm sd i j) (h3:a<n→s a≠rgF bm sd i a):atI bm sd i s n=a :=
 Mo h1 (λj hj=>decide_eq_true (h2 j hj)) (λh=>decide_eq_false (h3 h))
noncomputable def opX (e:Nat→Nat) (a:Nat):Nat:=Sc.mulP (Sc.subP (rgN bm sd i) (s a)) (ivS (e a))
theorem N1 (e:Nat→Nat) (a:Nat):opX bm sd i s e a<K4:=Sc.mod_lt _
noncomputable def Cd (n:Nat) (e:Nat→Nat) (X Y:Nat→Nat) (I:Nat→Bool):Bool:=decide (atI bm sd i s n<n) && (!decide (e (atI bm sd i s n)=0) && Bc (opX bm sd i s e (atI bm sd i s n)) (X (atI bm sd i s n)) (Y (atI bm sd i s n)) (I (atI bm sd i s n)))
noncomputable def G0 (n:Nat) (e:Nat→Nat) (X Y:Nat→Nat) (I:Nat→Bool):Value:=if Cd bm sd i s n e X Y I then .tuple #[C5 ((atI bm sd i s n:Nat):Int) (opX bm sd i s e (atI bm sd i s n)),.bool true] else .tuple #[C5 0 0,.bool false]
end
section
variable {bm sd:List UInt8} {i n a:Nat} {s e:Nat→Nat} {X Y:Nat→Nat} {I:Nat→Bool}
theorem ML (h:atI bm sd i s n=a) (ha:¬ a<n):Cd bm sd i s n e X Y I=false:=by unfold Cd; rw [h,decide_eq_false ha]; rfl
theorem MK (h:atI bm sd i s n=a) (ha:e a=0):Cd bm sd i s n e X Y I=false:=by unfold Cd; rw [h,decide_eq_true ha,Bool.not_true,Bool.false_and,Bool.and_false]
theorem MJ (h:atI bm sd i s n=a) (ha:Bc (opX bm sd i s e a) (X a) (Y a) (I a)=false):Cd bm sd i s n e X Y I=false:=by unfold Cd; rw [h,ha,Bool.and_false,Bool.and_false]
theorem Hc (h:atI bm sd i s n=a) (h1:a<n) (h2:¬ e a=0) (h3:Bc (opX bm sd i s e a) (X a) (Y a) (I a)=true):Cd bm sd i s n e X Y I=true:=by unfold Cd; rw [h,h3,decide_eq_true h1,decide_eq_false h2]; rfl
theorem Fn (h:Cd bm sd i s n e X Y I=false):G0 bm sd i s n e X Y I=.tuple #[C5 0 0,.bool false]:=by unfold G0; rw [h]; rfl
theorem JP (h:Cd bm sd i s n e X Y I=true) (ha:atI bm sd i s n=a):G0 bm sd i s n e X Y I=.tuple #[C5 ((a:Nat):Int) (opX bm sd i s e a),.bool true]:=by unfold G0; rw [h,ha]; rfl
end
theorem JO (w:World) (R:Option Addr) (NR cR:Nat) (a:Nat→Option Addr) (nk ck:Nat→Nat) (X Y:Nat→Nat→Nat) (I:Nat→Nat→Bool) (hX:∀ i k,X i k<K4) (hY:∀ i k,Y i k<K4) (hNR:NR≤4611686018427387904) (hnk:∀ i,nk i≤4611686018427387904) (hlr:Lst w 1 R NR (λi=>[.slice (a i) (nk i) (ck i)])) (hlk:∀ i,i<NR→Lst w 9 (a i) (nk i) (λk=>pml (X i k) (Y i k) (I i k))) (bm:List UInt8) (hbm:bm.length=32) (sd:List UInt8) (hsd:sd.length=32) (i:Nat) (hi:i<NR) (hi2:i<256) (WA:Option Addr) (WN wc:Nat) (s:Nat→Nat) (hs4:∀ k,s k<K4) (hlw:Lst w 4 WA WN (λk=>fws (s k))) (EA:Option Addr) (EN ec:Nat) (e:Nat→Nat) (he4:∀ k,e k<K4) (hle:Lst w 4 EA EN (λk=>fws (e k))) (hWN:WN≤256) (hWE:WN≤EN) (hWK:WN≤nk i) (ht:Sh.TabAt w 1):Calls Tryz.prog 107 #[Aw R NR cR bm,.agg (sd.map bv).toArray,iZ i,.slice WA WN wc,.slice EA EN ec] w (Gets w (G0 bm sd i s WN e (X i) (Y i) (I i))):=by
 have hlr0:=hlr
 obtain ⟨gR,oR,hR⟩:=hlr
 obtain ⟨gW,oW,hW⟩:=hlw
 obtain ⟨gE,oE,hE⟩:=hle
 obtain ⟨gK,oK,hT⟩:=hlk i hi
 refine Sy.enter (args:=[Aw R NR cR bm,.agg (sd.map bv).toArray,iZ i,.slice WA WN wc,.slice EA EN ec]) Tryz.func107 U kL<|sC<|sM 79 (Ag R NR cR bm).toArray (λg0=>?_)
 refine sM 23 (sd.map bv).toArray (λg1=>?_)
 refine sM 44 (Aq 0 0).toArray (λg2=>?_)
 refine sP (.bool false)<|sA<|sP (.int .i64 0)<|sG<|Sy.seq<|Sy.block<|Sy.loopH WN (λk1=>∀ j,j<k1→s j=rgF bm sd i j) (λk1=>[(2,iZ i),(3,.slice WA WN wc),(4,.slice EA EN ec),(5,pT g0 0),(6,pT g1 0),(10,pT g2 0),(12,iZ k1)]) (λk1=>[(g0,79,(Ag R NR cR bm).toArray),(g1,23,(sd.map bv).toArray),(g2,44,(Aq 0 0).toArray)]) [true,true,true] (M:=[(g0,79,(Ag R NR cR bm).toArray),(g1,23,(sd.map bv).toArray),(g2,44,(Aq 0 0).toArray)]) (λj hj=>absurd hj (Nat.not_lt_zero _)) ac7 kR (AL U (AL U (AL U U))) (λk1 hk1 hh=>?_)
 have hh1:=hh
 refine Sy.seq<|Sy.seq<|Sy.regionD (λj=>false) kR<|sZ 0 U (iZ k1)<|sZ 1 U (.slice WA WN wc)<|sZ 2 U (iZ WN) ?_
 obtain ⟨b1,hb1⟩:=xE (decide (k1<WN))
 refine sD 3 U (.bool b1) (qls U U U hb1)<|sZ 4 U (.bool b1) ?_
 cases b1
 ·have lb1:=dN hb1
  have hat:atI bm sd i s WN=k1:=LD _ _ _ _ om hh1 (λh=>absurd h lb1)
  refine sQ 5 U<|sQ 6 U<|sQ 7 U<|sQ 8 U<|sQ 9 U<|sQ 10 U<|sQ 11 U<|sQ 12 U<|sQ 13 U<|sQ 14 U<|sZ 15 U (.bool false)<|sI<|sU<|Sy.exit<|Sy.then_exit<|Sy.then_exit<|Sy.in_exit<|Sy.then_<|Sy.seq<|Sy.seq<|Sy.regionD (λj=>false) kR<|sZ 0 U (iZ k1)<|sZ 1 U (.slice WA WN wc)<|sZ 2 U (iZ WN) ?_
  obtain ⟨b2,hb2⟩:=xE (decide (k1=WN))
  refine sD 3 U (.bool b2) (qeq U U U hb2)<|sZ 4 U (.bool b2) ?_
  cases b2
  ·have lb2:=dN hb2
   exact absurd (show k1=WN by omega) lb2
  ·have lb2:=dY hb2
   refine sQ 5 U<|sQ 6 U<|sQ 7 U<|sQ 8 U<|sQ 9 U<|sQ 10 U<|sZ 11 U (.bool true)<|sI<|sT<|sC<|sP (C5 0 0)<|sW 2 g2 44 (Aq 0 0).toArray (Aq 0 0).toArray (Writes.row 44 (Aq 0 0) 5 _ _ U kR kR kR U U (D0 _ _))<|sP (.bool false)<|sG<|Sy.ret<|Sy.then_ret ?_
   rw [show (G0 bm sd i s WN e (X i) (Y i) (I i):Value)=.tuple #[C5 0 0,.bool false] from by rw [Fn (ML hat om)]]
   exact Sy.ret2 U (v:=C5 0 0) (u:=.bool false) (.inl (Res.cell (ty':=44) g2 2 (Aq 0 0).toArray _ kR kR I' U kR kR)) (.inl (show _=_ by kernel_rfl))
 ·have lb1:=dY hb1
  refine sZ 5 U (.slice WA WN wc)<|sZ 6 U (iZ k1)<|sD 7 U (.pointer (some ⟨gW,oW+k1*4,none⟩)) (Quiet.pure (AJ 51 _ _ _ WA gW oW WN wc k1 4 .i64 (hW om).1 U U U Ca kF om))<|sD 8 U (fv (s k1)) (Quiet.there gW (oW+k1*4) 4 42 (fws (s k1)) _ _ U kR (hW om).2.1 ((hW om).2.2 k1 om) Ab U kR U _ U)<|sD 9 U (Aw R NR cR bm) (Quiet.load 0 g0 0 33 79 79 (Ag R NR cR bm).toArray _ _ U kR kR DF U kR _ (Az hbm) (A7 hbm))<|sD 10 U (.agg (sd.map bv).toArray) (Quiet.load 1 g1 0 32 23 23 (sd.map bv).toArray _ _ U kR kR C8 U kR _ (BK sd hsd) (Bj sd hsd))<|sZ 11 U (iZ i)<|sZ 12 U (iZ k1)<|sD 13 U (fv (rgF bm sd i k1)) (Quiet.callS 163 #[Aw R NR cR bm,.agg (sd.map bv).toArray,iZ i,iZ k1] kF (λw hw=>Hy w R NR cR bm hbm sd hsd i k1 hi2 om (ht.below hw.below ht.lt))) ?_
  obtain ⟨b3,hb3⟩:=xE (decide ((s k1)=(rgF bm sd i k1)))
  refine sD 14 U (.bool b3) (Quiet.pure (λw=>by rw [hb3]; exact Iu w _ _ _ _ _ _ U U U (by first | exact hs4 _ | exact he4 _ | exact C6 _ _ _ _ | exact Da) (by first | exact hs4 _ | exact he4 _ | exact C6 _ _ _ _ | exact Da)))<|sZ 15 U (.bool b3)<|sI ?_
  cases b3
  ·have lb3:=dN hb3
   have hat:atI bm sd i s WN=k1:=LD _ _ _ _ om hh1 (λ_=>lb3)
   refine sU<|Sy.exit<|Sy.then_exit<|Sy.then_exit<|Sy.in_exit<|Sy.then_<|Sy.seq<|Sy.seq<|Sy.regionD (λj=>false) kR<|sZ 0 U (iZ k1)<|sZ 1 U (.slice WA WN wc)<|sZ 2 U (iZ WN) ?_
   obtain ⟨b4,hb4⟩:=xE (decide (k1=WN))
   refine sD 3 U (.bool b4) (qeq U U U hb4)<|sZ 4 U (.bool b4) ?_
   cases b4
   ·have lb4:=dN hb4
    refine sZ 5 U (.slice EA EN ec)<|sZ 6 U (iZ k1)<|sD 7 U (.pointer (some ⟨gE,oE+k1*4,none⟩)) (Quiet.pure (AJ 51 _ _ _ EA gE oE EN ec k1 4 .i64 (hE om).1 U U U Ca kF om))<|sD 8 U (fv (e k1)) (Quiet.there gE (oE+k1*4) 4 42 (fws (e k1)) _ _ U kR (hE om).2.1 ((hE om).2.2 k1 om) Ab U kR U _ U)<|sD 9 U (fv 0) (qF 121 #[.int .u64 0] (λw=>Sc.of_at w 0 0 U dZ)) ?_
    obtain ⟨b5,hb5⟩:=xE (decide ((e k1)=0))
    refine sD 10 U (.bool b5) (Quiet.pure (λw=>by rw [hb5]; exact Iu w _ _ _ _ _ _ U U U (by first | exact hs4 _ | exact he4 _ | exact C6 _ _ _ _ | exact Da) (by first | exact hs4 _ | exact he4 _ | exact C6 _ _ _ _ | exact Da)))<|sZ 11 U (.bool b5)<|sI ?_
    cases b5
    ·have lb5:=dN hb5
     have hez:¬ e k1=0:=lb5
     refine sU<|Sy.skip<|sR (λj=>j == 16) ?_
     refine sD 0 U (Aw R NR cR bm) (Quiet.load 0 g0 0 33 79 79 (Ag R NR cR bm).toArray _ _ U kR kR DF U kR _ (Az hbm) (A7 hbm))<|sD 1 U (.agg (sd.map bv).toArray) (Quiet.load 1 g1 0 32 23 23 (sd.map bv).toArray _ _ U kR kR C8 U kR _ (BK sd hsd) (Bj sd hsd))<|sZ 2 U (iZ i) ?_
     obtain ⟨kn,hkn⟩:=xE (rgN bm sd i)
     refine sD 3 U (fv kn) (Quiet.callS 98 #[Aw R NR cR bm,.agg (sd.map bv).toArray,iZ i] kF (λw hw=>by rw [hkn]; exact EZ w R NR cR bm hbm sd hsd i hi2 (ht.below hw.below ht.lt)))<|sZ 4 U (.slice WA WN wc)<|sZ 5 U (iZ k1)<|sD 6 U (.pointer (some ⟨gW,oW+k1*4,none⟩)) (Quiet.pure (AJ 51 _ _ _ WA gW oW WN wc k1 4 .i64 (hW om).1 U U U Ca kF om))<|sD 7 U (fv (s k1)) (Quiet.there gW (oW+k1*4) 4 42 (fws (s k1)) _ _ U kR (hW om).2.1 ((hW om).2.2 k1 om) Ab U kR U _ U) ?_
     obtain ⟨ks,hks⟩:=xE (Sc.subP kn (s k1))
     refine sD 8 U (fv ks) (qF 103 #[fv kn,fv (s k1)] (λw=>by rw [hks]; exact Sc.subF_any w _ _ (by rw [hkn]; exact KV _ _ _) (hs4 _)))<|sZ 9 U (.slice EA EN ec)<|sZ 10 U (iZ k1)<|sD 11 U (.pointer (some ⟨gE,oE+k1*4,none⟩)) (Quiet.pure (AJ 51 _ _ _ EA gE oE EN ec k1 4 .i64 (hE om).1 U U U Ca kF om))<|sD 12 U (fv (e k1)) (Quiet.there gE (oE+k1*4) 4 42 (fws (e k1)) _ _ U kR (hE om).2.1 ((hE om).2.2 k1 om) Ab U kR U _ U) ?_
     obtain ⟨kv,hkv⟩:=xE (ivS (e k1))
     refine sD 13 U (fv kv) (qF 169 #[fv (e k1)] (λw=>by rw [hkv]; exact Pq w _ (he4 _))) ?_
     obtain ⟨kx,hkx⟩:=xE (opX bm sd i s e k1)
     refine sD 14 U (fv kx) (qF 104 #[fv ks,fv kv] (λw=>by rw [hkx]; unfold opX; rw [← hkn, ← hks, ← hkv]; exact Sc.mulF_any w _ _ (by rw [hks]; exact Sc.subP_lt _ _) (by rw [hkv]; exact RK _)))<|sO 15 U 42 (fcs 0) (λg3=>?_)
     refine sX 16 U 3 g3 42 (fcs 0) (fcs kx) (wS 0 42 (fcs kx) rfl)<|sI<|Sy.seq<|Sy.seq<|Sy.regionD (λj=>false) kR<|sD 0 U (fv kx) (qL 3 g3 0 4 42 42 (fcs kx) rfl Ab)<|sZ 1 U (pT g0 0)<|sD 2 U (.slice R NR cR) (Quiet.cell 0 g0 0 79 25 (Ag R NR cR bm).toArray _ _ U kR kR Bl U _ kR)<|sZ 3 U (iZ i)<|sD 4 U (.pointer (some ⟨gR,oR+i*1,none⟩)) (Quiet.pure (AJ 25 _ _ _ R gR oR NR cR i 1 .i64 (hR om).1 U U U Bl kF om))<|sD 5 U (.slice (a i) (nk i) (ck i)) (Quiet.thereOne gR (oR+i*1) 45 _ _ U kR (hR om).2.1 _ (AV ((hR om).2.2 i om) 0 U) CJ U)<|sZ 6 U (iZ k1)<|sD 7 U (.pointer (some ⟨gK,oK+k1*9,none⟩)) (Quiet.pure (AJ 45 _ _ _ (a i) gK oK (nk i) (ck i) k1 9 .i64 (hT om).1 U U U CJ kF om))<|sD 8 U (pv (X i k1) (Y i k1) (I i k1)) (Quiet.there gK (oK+k1*9) 9 48 (pml (X i k1) (Y i k1) (I i k1)) _ _ U kR (hT om).2.1 ((hT om).2.2 k1 om) An U kR U _ U) ?_
     obtain ⟨b6,hb6⟩:=xE (Bc kx (X i k1) (Y i k1) (I i k1))
     refine sD 9 U (.bool b6) (qF 93 #[fv kx,pv (X i k1) (Y i k1) (I i k1)] (λw=>by rw [hb6]; exact Hs w _ _ _ _ (by rw [hkx]; exact N1 _ _ _ _ _ _) (hX _ _) (hY _ _))) ?_
     cases b6
     ·refine sZ 10 U (.bool true) ?_
      refine sI<|sT<|sC<|sP (C5 0 0)<|sW 2 g2 44 (Aq 0 0).toArray (Aq 0 0).toArray (Writes.row 44 (Aq 0 0) 5 _ _ U kR kR kR U U (D0 _ _))<|sP (.bool false)<|sG<|Sy.ret<|Sy.then_ret ?_
      rw [show (G0 bm sd i s WN e (X i) (Y i) (I i):Value)=.tuple #[C5 0 0,.bool false] from by rw [Fn (MJ hat (by rw [← hkx, ← hb6]))]]
      exact Sy.ret2 U (v:=C5 0 0) (u:=.bool false) (.inl (Res.cell (ty':=44) g2 2 (Aq 0 0).toArray _ kR kR I' U kR kR)) (.inl (show _=_ by kernel_rfl))
     ·refine sZ 10 U (.bool false) ?_
      refine sI<|sU<|Sy.skip<|sB<|sP (iZ k1)<|sS (fv kx) (qL 3 g3 0 4 42 42 (fcs kx) rfl Ab)<|sP (C5 ((k1:Nat):Int) kx)<|sW 2 g2 44 (Aq 0 0).toArray (Aq ((k1:Nat):Int) kx).toArray (Writes.row 44 (Aq ((k1:Nat):Int) kx) 5 _ _ U kR kR kR U U (D0 _ _))<|sP (.bool true)<|sG<|Sy.ret ?_
      rw [show (G0 bm sd i s WN e (X i) (Y i) (I i):Value)=.tuple #[C5 ((k1:Nat):Int) kx,.bool true] from by rw [JP (Hc hat om hez (by rw [← hkx, ← hb6])) hat,hkx]]
      exact Sy.ret2 U (v:=C5 ((k1:Nat):Int) kx) (u:=.bool true) (.inl (Res.cell (ty':=44) g2 2 (Aq ((k1:Nat):Int) kx).toArray _ kR kR I' U kR kR)) (.inl (show _=_ by kernel_rfl))
    ·have lb5:=dY hb5
     refine sT<|sC<|sP (C5 0 0)<|sW 2 g2 44 (Aq 0 0).toArray (Aq 0 0).toArray (Writes.row 44 (Aq 0 0) 5 _ _ U kR kR kR U U (D0 _ _))<|sP (.bool false)<|sG<|Sy.ret<|Sy.then_ret ?_
     rw [show (G0 bm sd i s WN e (X i) (Y i) (I i):Value)=.tuple #[C5 0 0,.bool false] from by rw [Fn (MK hat lb5)]]
     exact Sy.ret2 U (v:=C5 0 0) (u:=.bool false) (.inl (Res.cell (ty':=44) g2 2 (Aq 0 0).toArray _ kR kR I' U kR kR)) (.inl (show _=_ by kernel_rfl))
   ·have lb4:=dY hb4
    exact absurd lb4 om
  ·have lb3:=dY hb3
   have hse:s k1=rgF bm sd i k1:=lb3
   refine sT<|Sy.skip<|Sy.then_<|Sy.block<|Sy.region<|sP (iZ k1)<|sS (iZ (k1+1)) (qad U U U)<|sP (iZ (k1+1))<|Sy.nil<|Sy.in_ ?_
   exact Sy.againH [true,true,true] (M:=[(g0,79,(Ag R NR cR bm).toArray),(g1,23,(sd.map bv).toArray),(g2,44,(Aq 0 0).toArray)]) om (λj hj=>(Nat.lt_succ_iff_lt_or_eq.1 hj).elim (hh1 j) (λh=>by subst h; exact hse)) ac7 kR (AL U (AL U (AL U U)))
end Cu
end
end Go.Proofs.YtbjmjcpdonochaaGreatDoor
