/-
  Texts of ours, put together: RingM, SymP, RingF, RingN, SymM, EnA, EnB, EnC, ManA, RingG, RingO, RingR, RingS, RingT, RingU, SymN, RingV, RingP, RingQ, RingSignsL, PLift7, PLift8.
-/
import Derived.Test.YtlooclodlpcglaaGreatDoorBV6
set_option linter.unusedVariables false
set_option linter.unusedSimpArgs false
namespace Go.Proofs.YtlooclodlpcglaaGreatDoor
section
namespace Cu
open Go.RowKit Sy
def AK (d:List UInt8) (W:Option Addr) (NW cW:Nat):List Value:=d.map bv++[.slice W NW cW]
def Ar (d:List UInt8) (W:Option Addr) (NW cW:Nat):Value:=.agg (AK d W NW cW).toArray
section
variable {d:List UInt8} {W:Option Addr} {NW cW:Nat}
theorem BJ (h:d.length=32):(AK d W NW cW).length=33:=by simp [AK,h]
theorem E4:∀ u∈AK d W NW cW,u.oneCell'=true:=λu hu=>by
 rcases List.mem_append.1 hu with hu | hu
 ·obtain ⟨x,_,rfl⟩:=List.mem_map.1 hu; rfl
 ·rw [List.mem_singleton.1 hu]; rfl
theorem Cb (h:d.length=32):(AK d W NW cW).toArray[32]? = some (.slice W NW cW):=by
 rw [List.getElem?_toArray]
 unfold AK
 rw [List.getElem?_append_right (by rw [List.length_map,h]; exact Nat.le_refl _),List.length_map,h]
 rfl
theorem Eh (h:d.length=32):Value.agg (((AK d W NW cW).toArray.toList.drop 0).take 32).toArray=.agg (d.map bv).toArray:=by
 show Value.agg ((((AK d W NW cW)).drop 0).take 32).toArray=_
 rw [List.drop_zero]
 unfold AK
 rw [List.take_left' (by rw [List.length_map,h])]
theorem Fo (h:d.length=32):0+32≤(AK d W NW cW).toArray.size:=by rw [List.size_toArray,BJ h]; decide
theorem CG (h:d.length=32):Value.agg (((AK d W NW cW).toArray.toList.drop 0).take 33).toArray=Ar d W NW cW:=by
 show Value.agg ((((AK d W NW cW)).drop 0).take 33).toArray=_
 rw [List.drop_zero,List.take_of_length_le (by rw [BJ h]; exact Nat.le_refl _)]
 rfl
theorem DQ (h:d.length=32):0+33≤(AK d W NW cW).toArray.size:=by rw [List.size_toArray,BJ h]; decide
theorem KU {w:World} {g:Nat} {t:TypeId} (hb:Blk w g t (AK d W NW cW).toArray):Sh.Src w (some ⟨g,0,none⟩) d:=λ_=>⟨g,0,rfl,hb.lt,λj u hj=>by
 refine (hb.cell (0+j)).trans ?_
 have hl:=(List.getElem?_eq_some_iff.1 hj).1
 rw [Nat.zero_add,List.getElem?_toArray]
 unfold AK
 rw [List.getElem?_append_left (by simpa using hl),List.getElem?_map,hj]
 rfl⟩
end
section
variable (s:Nat→Nat→Nat) (bm:List UInt8) (X Y:Nat→Nat→Nat) (I:Nat→Nat→Bool) (d:List UInt8)
def eE (i j:Nat):Nat:=rgC bm (alX (s i) bm i 0 (X i) (Y i) (I i) d j) i j
def eF (i j:Nat):List Value:=fws (eE s bm X Y I d i j)
def DJ (nk:Nat→Nat):Nat→List UInt8
 | 0=>[]
 | k+1=>DJ nk k++alX (s k) bm k 0 (X k) (Y k) (I k) d (nk k)
def C2 (sn nk:Nat→Nat) (i:Nat):Bool:=decide (sn i=nk i) && (List.range (sn i)).all λj=>decide (s i j%Sc.pM=s i j)
def chB (NW NR:Nat) (sn nk:Nat→Nat):Bool:=decide (NW=NR) && ((List.range NR).all (C2 s sn nk) && decide (rgT bm (DJ s bm X Y I d nk NR)=d))
end
section
variable {s:Nat→Nat→Nat} {bm:List UInt8} {X Y:Nat→Nat→Nat} {I:Nat→Nat→Bool} {d:List UInt8} {NW NR:Nat} {sn nk:Nat→Nat}
theorem OQ (i j:Nat):eE s bm X Y I d i j<K4:=EV _ _ _ _
theorem EE (s:Nat→Nat) (bm:List UInt8) (i:Nat) (X Y:Nat→Nat) (I:Nat→Bool) (x:List UInt8) (k:Nat):alX s bm i 0 X Y I x (k+1)=A3 (rPt (s k) (rgC bm (alX s bm i 0 X Y I x k) i k) (X k) (Y k) (I k)):=by
 show A3 (rPt (s (0+k)) (rgC bm (alX s bm i 0 X Y I x k) i (0+k)) (X (0+k)) (Y (0+k)) (I (0+k)))=_
 rw [Nat.zero_add]
theorem FK (h:d.length=32):∀ k,(DJ s bm X Y I d nk k).length≤33*k
 | 0=>Nat.le_refl _
 | k+1=>by
  show (DJ s bm X Y I d nk k++_).length≤_
  have h1:=FK h k
  have h2:(alX (s k) bm k 0 (X k) (Y k) (I k) d (nk k)).length≤33:=by
   rcases Nat.eq_zero_or_pos (nk k) with h0 | h0
   ·rw [h0]; show d.length≤33; omega
   ·rw [F6 h0]; exact Nat.le_refl _
  rw [List.length_append]
  omega
theorem Hq {i:Nat} (h:sn i≠nk i):C2 s sn nk i=false:=by unfold C2; rw [decide_eq_false h]; rfl
theorem Hp {i j:Nat} (hj:j<sn i) (h:s i j%Sc.pM≠s i j):C2 s sn nk i=false:=by
 unfold C2
 rw [show ((List.range (sn i)).all λj=>decide (s i j%Sc.pM=s i j))=false from List.all_eq_false.2 ⟨j,List.mem_range.2 hj,by rw [decide_eq_false h]; decide⟩,Bool.and_false]
theorem E6 {i:Nat} (h1:sn i=nk i) (h2:∀ j,j<sn i→s i j%Sc.pM=s i j):C2 s sn nk i=true:=by
 unfold C2
 rw [decide_eq_true h1,List.all_eq_true.2 λj hj=>decide_eq_true (h2 j (List.mem_range.1 hj))]
 rfl
theorem rowOk_iff {i:Nat}:C2 s sn nk i=true↔sn i=nk i∧∀ j,j<sn i→s i j%Sc.pM=s i j:=by
 unfold C2
 rw [Bool.and_eq_true,decide_eq_true_iff,List.all_eq_true]
 exact ⟨λh=>⟨h.1,λj hj=>of_decide_eq_true (h.2 j (List.mem_range.2 hj))⟩,λh=>⟨h.1,λj hj=>decide_eq_true (h.2 j (List.mem_range.1 hj))⟩⟩
theorem L7 (h:NW≠NR):chB s bm X Y I d NW NR sn nk=false:=by unfold chB; rw [decide_eq_false h]; rfl
theorem F3 {k:Nat} (hk:k<NR) (h:C2 s sn nk k=false):chB s bm X Y I d NW NR sn nk=false:=by
 unfold chB
 rw [show (List.range NR).all (C2 s sn nk)=false from List.all_eq_false.2 ⟨k,List.mem_range.2 hk,by rw [h]; decide⟩,Bool.false_and,Bool.and_false]
theorem L8 (h:rgT bm (DJ s bm X Y I d nk NR)≠d):chB s bm X Y I d NW NR sn nk=false:=by
 unfold chB
 rw [decide_eq_false h,Bool.and_false,Bool.and_false]
theorem I2 (h0:NW=NR) (h1:∀ i,i<NR→C2 s sn nk i=true) (h:rgT bm (DJ s bm X Y I d nk NR)=d):chB s bm X Y I d NW NR sn nk=true:=by
 unfold chB
 rw [decide_eq_true h0,decide_eq_true h,List.all_eq_true.2 λi hi=>h1 i (List.mem_range.1 hi)]
 rfl
end
def Bg:Nat→Nat
 | 0=>32
 | _+1=>33
def XtIs (g:Nat) (d l:List UInt8) (j:Nat) (xt:Sh.Tx) (xb:AE):Prop:=(j=0∧xt=⟨some ⟨g,0,none⟩,d,32⟩∧xb=[]∧l=d)∨(0<j∧l.length=33∧∃ q,xt=⟨some ⟨q,0,none⟩,l,33⟩∧xb=[(q,188,(l.map bv).toArray)])
section
variable {g j:Nat} {d l:List UInt8} {xt:Sh.Tx} {xb:AE} {w0:Base} {w:World} {L:AE}
theorem XtIs.li (h:XtIs g d l j xt xb):xt.l=l:=by
 rcases h with ⟨_,rfl,_,rfl⟩ | ⟨_,_,q,rfl,_⟩ <;> rfl
theorem XtIs.xl (h:XtIs g d l j xt xb) (hd:d.length=32):xt.l.length=Bg j:=by
 rcases h with ⟨rfl,rfl,_,rfl⟩ | ⟨hj,hl,q,rfl,_⟩
 ·exact hd
 ·cases j with
  | zero=>omega
  | succ j=>exact hl
theorem XtIs.val (h:XtIs g d l j xt xb) (hd:d.length=32):xt.val=.slice xt.A (Bg j) xt.c:=by
 unfold Sh.Tx.val
 rw [h.xl hd]
theorem XtIs.len (h:XtIs g d l j xt xb) (hd:d.length=32):xt.l.length≤33∧xt.l.length≤xt.c∧xt.c≤33:=by
 rcases h with ⟨_,rfl,_,rfl⟩ | ⟨_,hl,q,rfl,_⟩
 ·show l.length≤33∧l.length≤32∧32≤33; omega
 ·show l.length≤33∧l.length≤33∧33≤33; omega
theorem XtIs.src (h:XtIs g d l j xt xb) {t:TypeId} {W:Option Addr} {NW cW:Nat} (hw:St w0 w L) (hg:(g,t,(AK d W NW cW).toArray)∈L) (hb:∀ b∈xb,b∈L):Sh.Src w xt.A xt.l:=by
 rcases h with ⟨_,rfl,_,rfl⟩ | ⟨_,_,q,rfl,rfl⟩
 ·exact KU (hw.blk _ _ _ hg).2
 ·exact Sh.Src.of_blk (hw.blk _ _ _ (hb _ (List.mem_singleton.2 rfl))).2
theorem XtIs.ok (h:XtIs g d l j xt xb) (hj:0<j):∀ w L,St w0 w L→(∀ b∈xb,b∈L)→xt.ok w:=by
 rcases h with ⟨h0,_⟩ | ⟨_,hl,q,rfl,rfl⟩
 ·omega
 ·exact Ko (by omega) (by decide)
end
def ChR (b:Bool) (f:Nat→Nat→List Value) (nk:Nat→Nat) (NR:Nat) (v:Value) (M:AE):Prop:=(b=false∧v=.tuple #[.slice none 0 0,.bool false]∧M=[])∨(b=true∧∃ u,v=.tuple #[u,.bool true]∧EI 55 46 4 f (B1 nk NR 0) NR u M)
set_option maxHeartbeats 4000000 in
set_option maxRecDepth 100000 in
theorem Dg (w:World) (R:Option Addr) (NR cR:Nat) (a:Nat→Option Addr) (nk ck:Nat→Nat) (X Y:Nat→Nat→Nat) (I:Nat→Nat→Bool) (hX:∀ i k,X i k<K4) (hY:∀ i k,Y i k<K4) (hNR:NR≤4611686018427387904) (hnk:∀ i,nk i≤4611686018427387904) (hlr:Lst w 1 R NR (λi=>[.slice (a i) (nk i) (ck i)])) (hlk:∀ i,i<NR→Lst w 9 (a i) (nk i) (λk=>pml (X i k) (Y i k) (I i k))) (hN32:NR≤32) (hn64:∀ i,i<NR→nk i≤64) (hn1:∀ i,i<NR→1≤nk i) (bm:List UInt8) (hbm:bm.length=32) (d:List UInt8) (hd:d.length=32) (W:Option Addr) (NW cW:Nat) (sa:Nat→Option Addr) (sn sc:Nat→Nat) (s:Nat→Nat→Nat) (hsc:∀ i k,s i k<K4) (hNW:NW≤4611686018427387904) (hsn9:∀ i,i<NW→sn i≤4611686018427387904) (hlw:Lst w 1 W NW (λi=>[.slice (sa i) (sn i) (sc i)])) (hls:∀ i,i<NW→Lst w 4 (sa i) (sn i) (λk=>fws (s i k))) (ht:Sh.TabAt w 1):Calls Tryz.prog 54 #[Ax R NR cR bm,Ar d W NW cW] w (GetsN w (ChR (chB s bm X Y I d NW NR sn nk) (eF s bm X Y I d) nk NR)):=by
 have hlr0:=hlr
 obtain ⟨gR,oR,hR⟩:=hlr
 obtain ⟨gW,oW,hW⟩:=hlw
 refine Sy.enter (args:=[Ax R NR cR bm,Ar d W NW cW]) Tryz.func54 rfl kL ?_
 refine sC ?_
 refine sM 83 (Af R NR cR bm).toArray (λg0=>?_)
 refine sM 31 (AK d W NW cW).toArray (λg1=>?_)
 refine sP (.slice none 0 0)<|sP (.bool false) ?_
 refine sG ?_
 refine Sy.scope ?_
 refine Sy.seq<|sC ?_
 refine sP (.pointer (some ⟨g1,32,none⟩))<|sS (.slice W NW cW) (Quiet.cell 1 g1 32 31 29 (AK d W NW cW).toArray _ _ rfl kR kR Tryz.underlying29 rfl _ (Cb hd))<|sP (.int .i64 ((NW:Nat):Int))<|sP (.pointer (some ⟨g0,0,none⟩))<|sS (.slice R NR cR) (Quiet.cell 0 g0 0 83 25 (Af R NR cR bm).toArray _ _ rfl kR kR Tryz.underlying25 rfl _ kR)<|sP (.int .i64 ((NR:Nat):Int)) ?_
 obtain ⟨b1,hb1⟩:∃ z:Bool,z=decide (NW≠NR):=⟨_,rfl⟩
 refine sS (.bool b1) (Quiet.pure (AC .neq _ _ _ .i64 _ _ _ rfl rfl rfl (Bl _ _ _ _ _ (by rw [hb1]; exact decide_eq_decide.2 (by omega))))) ?_
 refine sG ?_
 cases b1
 ·have lb1:¬ (NW≠NR):=of_decide_eq_false hb1.symm
  obtain rfl:NR=NW:=by omega
  refine sU<|Sy.skip<|sB ?_
  refine sP (.pointer (some ⟨g0,0,none⟩))<|sS (.slice R NR cR) (Quiet.cell 0 g0 0 83 25 (Af R NR cR bm).toArray _ _ rfl kR kR Tryz.underlying25 rfl _ kR)<|sP (.int .i64 ((NR:Nat):Int)) ?_
  refine Sy.make kR 55 (AV (λ_=>[.slice none 0 0]) NR).toArray (λg=>.slice (some ⟨g,0,none⟩) NR NR) (Makes.slice 29 55 _ (.slice none 0 0) 1 24 _ _ .i64 .i64 NR [.slice none 0 0] rfl rfl rfl Tryz.underlying29 Jo kR kR (by decide) kR kR kR (by omega) (by omega)) (λg2=>?_)
  refine sP (.slice (some ⟨g2,0,none⟩) NR NR) ?_
  refine sA ?_
  refine sP (.slice none 0 0) ?_
  refine sG<|Sy.seq ?_
  refine Sy.label ?_
  refine Sy.then_<|Sy.seq<|sC ?_
  refine sP (.pointer (some ⟨g1,32,none⟩))<|sS (.slice W NR cW) (Quiet.cell 1 g1 32 31 29 (AK d W NR cW).toArray _ _ rfl kR kR Tryz.underlying29 rfl _ (Cb hd))<|sP (.int .i64 ((NR:Nat):Int))<|sP (.int .i64 0) ?_
  refine sG<|Sy.block ?_
  refine Sy.loopT (Y:=(Nat→Slc)×Slc×AE×List Sh.Tx) NR (λk1 y1=>[(2,.pointer (some ⟨g0,0,none⟩)),(3,.pointer (some ⟨g1,0,none⟩)),(6,.slice (some ⟨g2,0,none⟩) NR NR),(7,y1.2.1.v),(26,.slice W NR cW),(27,.int .i64 ((NR:Nat):Int)),(28,.int .i64 ((k1:Nat):Int))]) (λk1 y1=>[(g0,83,(Af R NR cR bm).toArray),(g1,31,(AK d W NR cW).toArray),(g2,55,(Aj y1.1 NR))]++(BK y1.1 NR++(y1.2.1.bl++y1.2.2.1))) (λk1 y1=>RowsAre y1.1 46 4 (eF s bm X Y I d) (B1 nk k1 0)∧TxsIs (Base.of w) 24 y1.2.1 y1.2.2.1 y1.2.2.2∧Sh.cat y1.2.2.2=DJ s bm X Y I d nk k1∧y1.2.2.2.length=k1∧∀ i,i<k1→C2 s sn nk i=true) (λ_=>nilS,nilS,[],[]) ⟨(RowsAre.nil _ _ _).cnt (IA nk),TxsIs.nil _ _,rfl,rfl,λi hi=>absurd hi (Nat.not_lt_zero _)⟩ ac7 (λw hw=>by rw [Ho]; exact hw) (λk1 y1 hk1 hh1=>?_)
  refine sC ?_
  obtain ⟨b2,hb2⟩:∃ z:Bool,z=decide (k1<NR):=⟨_,rfl⟩
  refine sS (.bool b2) (Quiet.pure (AC .lss _ _ _ .i64 _ _ _ rfl rfl rfl (AY _ _ _ _ _ (by rw [hb2]; exact decide_eq_decide.2 (by omega))))) ?_
  refine sG<|Sy.seq ?_
  cases b2
  ·have lb2:¬ (k1<NR):=of_decide_eq_false hb2.symm
   refine sU<|Sy.exit<|Sy.then_exit<|Sy.then_exit ?_
   obtain rfl:NR=k1:=by omega
   refine Sy.in_exit<|Sy.then_<|Sy.seq<|Sy.seq ?_
   refine Sy.regionD (λj=>false) kR ?_
   refine sZ 0 rfl (y1.2.1.v)<|sD 1 rfl (.int .i64 ((NR:Nat):Int)) (Quiet.lenR hh1.2.1.row (by rw [List.length_map]; exact hh1.2.2.2.1) _ Tryz.underlying86 rfl rfl)<|sZ 2 rfl (.pointer (some ⟨g0,0,none⟩))<|sD 3 rfl (.slice R NR cR) (Quiet.cell 0 g0 0 83 25 (Af R NR cR bm).toArray _ _ rfl kR kR Tryz.underlying25 rfl _ kR)<|sZ 4 rfl (.int .i64 ((NR:Nat):Int)) ?_
   obtain ⟨b3,hb3⟩:∃ z:Bool,z=decide (NR≠NR):=⟨_,rfl⟩
   refine sD 5 rfl (.bool b3) (Quiet.pure (AC .neq _ _ _ .i64 _ _ _ rfl rfl rfl (Bl _ _ _ _ _ (by rw [hb3]; exact decide_eq_decide.2 (by omega)))))<|sZ 6 rfl (.bool b3) ?_
   cases b3
   ·have lb3:¬ (NR≠NR):=of_decide_eq_false hb3.symm
    refine sD 7 rfl (Ax R NR cR bm) (Quiet.load 0 g0 0 33 83 83 (Af R NR cR bm).toArray _ _ rfl kR kR Tryz.underlying83 rfl kR _ (Az hbm) (A6 hbm))<|sZ 8 rfl (y1.2.1.v) ?_
    obtain ⟨d0,hd0⟩:∃ l,l=rgT bm (DJ s bm X Y I d nk NR):=⟨_,rfl⟩
    have hd1:d0.length=32:=by rw [hd0]; exact Fs _ _
    refine sD 9 rfl (.agg (d0.map bv).toArray) (Quiet.callS 107 #[Ax R NR cR bm,y1.2.1.v] kF (λw hw=>by obtain ⟨Q,dd,hv,hc9,_,htx⟩:=hh1.2.1.texts; rw [hv,hd0, ← hh1.2.2.1]; have hel:=FK (s:=s) (bm:=bm) (X:=X) (Y:=Y) (I:=I) (nk:=nk) hd NR; exact Gp w R NR cR bm hbm Q _ dd y1.2.2.2 (htx hw (λb hb=>List.mem_append.2 (.inr (List.mem_append.2 (.inr (List.mem_append.2 (.inl hb)))))) (λb hb=>List.mem_append.2 (.inr (List.mem_append.2 (.inr (List.mem_append.2 (.inr hb))))))) (hh1.2.1.ok w _ hw (λb hb=>List.mem_append.2 (.inr (List.mem_append.2 (.inr (List.mem_append.2 (.inr hb))))))) rfl hc9 (by omega) (by rw [hh1.2.2.1]; omega) (ht.below hw.below ht.lt)))<|sZ 10 rfl (.pointer (some ⟨g1,0,none⟩))<|sD 11 rfl (.agg (d.map bv).toArray) (Quiet.load 1 g1 0 32 31 23 (AK d W NR cW).toArray _ _ rfl kR kR Tryz.underlying23 rfl kR _ (Eh hd) (Fo hd)) ?_
    obtain ⟨b4,hb4⟩:∃ z:Bool,z=decide (d0≠d):=⟨_,rfl⟩
    refine sD 12 rfl (.bool b4) (Quiet.pure (λw=>by rw [hb4]; exact Kw w _ _ _ _ d0 d hd1 hd rfl rfl rfl))<|sZ 13 rfl (.bool b4) ?_
    refine sI ?_
    cases b4
    ·have lb4:¬ (d0≠d):=of_decide_eq_false hb4.symm
     refine sU<|Sy.skip<|sB ?_
     refine sP (.slice (some ⟨g2,0,none⟩) NR NR)<|sP (.slice (some ⟨g2,0,none⟩) NR NR)<|sP (.bool true) ?_
     refine sG<|Sy.ret ?_
     refine Sy.sc_r ?_
     exact Bb ((g2,55,Aj y1.1 NR)::BK y1.1 NR) rfl (v:=.slice (some ⟨g2,0,none⟩) NR NR) (u:=.bool true) (.inl (show _=_ by kernel_rfl)) (.inl (show _=_ by kernel_rfl)) (λw hw=>(St.pick (pre:=[(g0,83,(Af R NR cR bm).toArray),(g1,31,(AK d W NR cW).toArray),(g2,55,(Aj y1.1 NR))]) (M:=[(g2,55,Aj y1.1 NR)]) [2] (by decide) kR hw).less (by rw [← List.append_assoc]; exact List.sublist_append_left _ _)) (.inr ⟨I2 rfl hh1.2.2.2.2 (by rw [← hd0]; exact Decidable.of_not_not lb4),_,rfl,_,y1.1,rfl,rfl,hh1.1⟩)
    ·have lb4:d0≠d:=of_decide_eq_true hb4.symm
     refine sT<|sC ?_
     refine sP (.slice none 0 0)<|sP (.bool false) ?_
     refine sG<|Sy.ret<|Sy.then_ret ?_
     refine Sy.sc_r ?_
     exact Bb [] rfl (v:=.slice none 0 0) (u:=.bool false) (.inl (show _=_ by kernel_rfl)) (.inl (show _=_ by kernel_rfl)) (λ_ hw=>hw.none) (.inl ⟨L8 (by rw [← hd0]; exact lb4),rfl,rfl⟩)
   ·have lb3:NR≠NR:=of_decide_eq_true hb3.symm
    exact absurd rfl lb3
  ·have lb2:k1<NR:=of_decide_eq_true hb2.symm
   have hnk1:=hn64 k1 lb2
   have hnk0:=hn1 k1 lb2
   obtain ⟨gK,oK,hT⟩:=hlk k1 lb2
   obtain ⟨gS,oS,hS⟩:=hls k1 lb2
   have hsn8:=hsn9 k1 lb2
   refine sT<|Sy.skip<|Sy.then_<|Sy.seq<|Sy.block<|sC ?_
   refine sP (.int .i64 ((k1:Nat):Int))<|sS (.pointer (some ⟨gW,oW+k1*1,none⟩)) (Quiet.pure (AJ 29 _ _ _ W gW oW NR cW k1 1 .i64 (hW (by omega)).1 rfl rfl rfl Tryz.underlying29 kF (by omega)))<|sS (.slice (sa k1) (sn k1) (sc k1)) (Quiet.thereOne gW (oW+k1*1) 55 _ _ rfl kR (hW (by omega)).2.1 _ (AR ((hW (by omega)).2.2 k1 (by omega)) 0 rfl) Tryz.underlying55 rfl)<|sP (.int .i64 ((k1:Nat):Int))<|sP (.slice (sa k1) (sn k1) (sc k1)) ?_
   refine sG<|Sy.seq<|sC ?_
   refine sP (.slice (sa k1) (sn k1) (sc k1))<|sP (.int .i64 (((sn k1):Nat):Int))<|sP (.pointer (some ⟨g0,0,none⟩))<|sS (.slice R NR cR) (Quiet.cell 0 g0 0 83 25 (Af R NR cR bm).toArray _ _ rfl kR kR Tryz.underlying25 rfl _ kR)<|sP (.int .i64 ((k1:Nat):Int))<|sS (.pointer (some ⟨gR,oR+k1*1,none⟩)) (Quiet.pure (AJ 25 _ _ _ R gR oR NR cR k1 1 .i64 (hR (by omega)).1 rfl rfl rfl Tryz.underlying25 kF (by omega)))<|sS (.slice (a k1) (nk k1) (ck k1)) (Quiet.thereOne gR (oR+k1*1) 49 _ _ rfl kR (hR (by omega)).2.1 _ (AR ((hR (by omega)).2.2 k1 (by omega)) 0 rfl) Tryz.underlying49 rfl)<|sP (.int .i64 (((nk k1):Nat):Int)) ?_
   obtain ⟨b5,hb5⟩:∃ z:Bool,z=decide ((sn k1)≠(nk k1)):=⟨_,rfl⟩
   refine sS (.bool b5) (Quiet.pure (AC .neq _ _ _ .i64 _ _ _ rfl rfl rfl (Bl _ _ _ _ _ (by rw [hb5]; exact decide_eq_decide.2 (by omega))))) ?_
   refine sG ?_
   cases b5
   ·have lb5:¬ ((sn k1)≠(nk k1)):=of_decide_eq_false hb5.symm
    have hsn:sn k1=nk k1:=by omega
    refine sU<|Sy.skip<|sB ?_
    refine sP (.pointer (some ⟨g1,0,none⟩))<|sP (.slice (some ⟨g1,0,none⟩) 32 32)<|sP (.slice (some ⟨g1,0,none⟩) 32 32) ?_
    refine sG<|Sy.seq<|sC ?_
    refine sP (.slice (sa k1) (sn k1) (sc k1))<|sP (.int .i64 (((sn k1):Nat):Int))<|sP (.int .i64 0) ?_
    refine sG<|Sy.block ?_
    refine Sy.loopT (Y:=(Nat→Slc)×Sh.Tx×AE) (sn k1) (λk2 y2=>[(2,.pointer (some ⟨g0,0,none⟩)),(3,.pointer (some ⟨g1,0,none⟩)),(6,.slice (some ⟨g2,0,none⟩) NR NR),(7,y1.2.1.v),(8,.int .i64 ((k1:Nat):Int)),(9,.slice (sa k1) (sn k1) (sc k1)),(10,.slice y2.2.1.A (Bg k2) y2.2.1.c),(26,.slice W NR cW),(27,.int .i64 ((NR:Nat):Int)),(28,.int .i64 ((k1:Nat):Int)),(44,.slice (sa k1) (sn k1) (sc k1)),(45,.int .i64 (((sn k1):Nat):Int)),(46,.int .i64 ((k2:Nat):Int))]) (λk2 y2=>[(g0,83,(Af R NR cR bm).toArray),(g1,31,(AK d W NR cW).toArray),(g2,55,(Aj y2.1 NR))]++(BK y2.1 NR++(y1.2.1.bl++(y1.2.2.1++y2.2.2)))) (λk2 y2=>RowsAre y2.1 46 4 (eF s bm X Y I d) (B1 nk k1 k2)∧XtIs g1 d (alX (s k1) bm k1 0 (X k1) (Y k1) (I k1) d k2) k2 y2.2.1 y2.2.2∧∀ i,i<k2→s k1 i%Sc.pM=s k1 i) (y1.1,⟨some ⟨g1,0,none⟩,d,32⟩,[]) ⟨hh1.1,.inl ⟨rfl,rfl,rfl,rfl⟩,λi hi=>absurd hi (Nat.not_lt_zero _)⟩ SK (λw hw=>by rw [List.append_nil]; exact hw) (λk2 y2 hk2 hh2=>?_)
    refine sC ?_
    obtain ⟨b6,hb6⟩:∃ z:Bool,z=decide (k2<(sn k1)):=⟨_,rfl⟩
    refine sS (.bool b6) (Quiet.pure (AC .lss _ _ _ .i64 _ _ _ rfl rfl rfl (AY _ _ _ _ _ (by rw [hb6]; exact decide_eq_decide.2 (by omega))))) ?_
    refine sG<|Sy.seq ?_
    cases b6
    ·have lb6:¬ (k2<(sn k1)):=of_decide_eq_false hb6.symm
     refine sU<|Sy.exit<|Sy.then_exit<|Sy.then_exit ?_
     obtain rfl:k2=sn k1:=by omega
     refine Sy.in_exit<|Sy.then_<|Sy.region ?_
     refine sP (y1.2.1.v)<|sP (.slice y2.2.1.A (Bg (sn k1)) y2.2.1.c) ?_
     refine Sy.make kR 24 #[.slice y2.2.1.A (Bg (sn k1)) y2.2.1.c] (λg=>.slice (some ⟨g,0,none⟩) 1 1) kF (λg3=>?_)
     refine Sy.movT ?_
     refine Sy.permS Sy.rot_perm ?_
     refine Sy.appendR kR 86 24 _ _ 1 24 Tryz.underlying86 Db rfl rfl rfl rfl (by decide) _ _ rfl hh1.2.1.row kR [.slice y2.2.1.A (Bg (sn k1)) y2.2.1.c] rfl (Gb _ _ _) 3 g3 24 kR kR (by rw [List.length_map,hh1.2.2.2.1]; omega) (by rw [List.length_map,hh1.2.2.2.1]; simp only [maxLen]; omega) (λr1 hr1=>?_)
     refine Sy.permS Sy.tor_perm ?_
     refine sP (r1.v) ?_
     refine Sy.nil<|Sy.in_<|Sy.then_<|Sy.region ?_
     refine sS (.int .i64 ((k1+1:Nat):Int)) (Quiet.pure (AC .add _ _ _ .i64 _ _ _ rfl rfl rfl (AO _ _ _ _ _ ((AH (by omega) (by omega)).trans (by omega)))))<|sP (.int .i64 ((k1+1:Nat):Int)) ?_
     refine Sy.nil ?_
     exact Sy.againT ((y2.1,r1,y1.2.2.1++y2.2.2,y1.2.2.2++[y2.2.1])) (by omega) (⟨hh2.1.cnt (λi=>by rw [hsn]; exact IB nk k1 i),hh1.2.1.add y2.2.1 y2.2.2 hr1 (hh2.2.1.val hd) (hh2.2.1.ok (by omega)),by rw [Et,hh1.2.2.1,hh2.2.1.li,hsn]; rfl,by rw [List.length_append,hh1.2.2.2.1]; rfl,λi hi=>(Nat.lt_succ_iff_lt_or_eq.1 hi).elim (hh1.2.2.2.2 i) (λh=>by rw [h]; exact E6 hsn hh2.2.2)⟩) ac7 (λw hw=>St.pick (pre:=[(g0,83,(Af R NR cR bm).toArray),(g1,31,(AK d W NR cW).toArray),(g2,55,(Aj y2.1 NR)),(g3,24,#[.slice y2.2.1.A (Bg (sn k1)) y2.2.1.c])]) (M:=[(g0,83,(Af R NR cR bm).toArray),(g1,31,(AK d W NR cW).toArray),(g2,55,(Aj y2.1 NR))]) [0,1,2] (by decide) kR hw)
    ·have lb6:k2<(sn k1):=of_decide_eq_true hb6.symm
     refine sT<|Sy.skip<|Sy.then_<|Sy.seq<|Sy.block<|sC ?_
     refine sP (.int .i64 ((k2:Nat):Int))<|sS (.pointer (some ⟨gS,oS+k2*4,none⟩)) (Quiet.pure (AJ 55 _ _ _ (sa k1) gS oS (sn k1) (sc k1) k2 4 .i64 (hS (by omega)).1 rfl rfl rfl Tryz.underlying55 kF (by omega)))<|sS (fv (s k1 k2)) (Quiet.there gS (oS+k2*4) 4 46 (fws (s k1 k2)) _ _ rfl kR (hS (by omega)).2.1 ((hS (by omega)).2.2 k2 (by omega)) Tryz.underlying46 rfl kR rfl _ rfl) ?_
     refine sM 46 (fcs 0) (λg4=>?_)
     refine Sy.movT ?_
     refine sP (.int .i64 ((k2:Nat):Int))<|sW 3 g4 46 (fcs 0) (fcs (s k1 k2)) (wS 0 46 (fcs (s k1 k2)) rfl) ?_
     refine Sy.setT ?_
     refine sG<|Sy.seq<|Sy.seq ?_
     refine Sy.regionD (λj=>false) kR ?_
     refine sD 0 rfl (fv (s k1 k2)) (qL 3 g4 0 4 46 46 (fcs (s k1 k2)) rfl Tryz.underlying46)<|sD 1 rfl (fv (s k1 k2%Sc.pM)) (qF 116 #[fv (s k1 k2)] (λw=>Sc.norm_any w (s k1 k2) (hsc k1 k2)))<|sD 2 rfl (fv (s k1 k2)) (qL 3 g4 0 4 46 46 (fcs (s k1 k2)) rfl Tryz.underlying46) ?_
     obtain ⟨b7,hb7⟩:∃ z:Bool,z=decide ((s k1 k2%Sc.pM)≠(s k1 k2)):=⟨_,rfl⟩
     refine sD 3 rfl (.bool b7) (Quiet.pure (λw=>by rw [hb7,decide_not]; exact Kv w _ _ _ _ _ _ rfl rfl rfl (by first | exact hsc _ _ | exact Sc.mod_lt _ | exact EV _ _ _ _ | exact CT _ _ _ _ | assumption) (by first | exact hsc _ _ | exact Sc.mod_lt _ | exact EV _ _ _ _ | exact CT _ _ _ _ | assumption))) ?_
     refine sI ?_
     cases b7
     ·have lb7:¬ ((s k1 k2%Sc.pM)≠(s k1 k2)):=of_decide_eq_false hb7.symm
      have hnorm:s k1 k2%Sc.pM=s k1 k2:=Decidable.of_not_not lb7
      refine sU<|Sy.skip<|sB ?_
      refine sS (Ax R NR cR bm) (Quiet.load 0 g0 0 33 83 83 (Af R NR cR bm).toArray _ _ rfl kR kR Tryz.underlying83 rfl kR _ (Az hbm) (A6 hbm))<|sP (.slice y2.2.1.A (Bg k2) y2.2.1.c)<|sP (.int .i64 ((k1:Nat):Int))<|sP (.int .i64 ((k2:Nat):Int))<|sS (fv (eE s bm X Y I d k1 k2)) (Quiet.callS 108 #[Ax R NR cR bm,.slice y2.2.1.A (Bg k2) y2.2.1.c,.int .i64 ((k1:Nat):Int),.int .i64 ((k2:Nat):Int)] kF (λw hw=>by have hl:=hh2.2.1.len hd; have hx:=hh2.2.1.xl hd; have q:=ED w R NR cR bm hbm y2.2.1.A y2.2.1.l (Bg k2) y2.2.1.c hx (by omega) (by omega) (by omega) (hh2.2.1.src hw (List.mem_append.2 (.inl (List.mem_of_getElem? (i:=1) rfl))) (λb hb=>List.mem_append.2 (.inr (List.mem_append.2 (.inr (List.mem_append.2 (.inr (List.mem_append.2 (.inr hb))))))))) k1 k2 (by omega) (by omega) (ht.below hw.below ht.lt); rwa [show rgC bm y2.2.1.l k1 k2=eE s bm X Y I d k1 k2 by rw [hh2.2.1.li]; rfl] at q)) ?_
      refine sM 46 (fcs 0) (λg5=>?_)
      refine Sy.movT ?_
      refine sW 4 g5 46 (fcs 0) (fcs (eE s bm X Y I d k1 k2)) (wS 0 46 (fcs (eE s bm X Y I d k1 k2)) rfl) ?_
      refine Sy.setT ?_
      refine sH (λj=>j == 8 || j == 10) ?_
      refine Sy.stepDA 0 rfl kR (λ_ _ _ _ h=>h) kR (.slice (some ⟨g2,0,none⟩) NR NR) kF ?_
      refine Sy.stepDA 1 rfl kR (λ_ _ _ _ h=>h) kR (.int .i64 ((k1:Nat):Int)) kF ?_
      refine Sy.stepDB 2 [4,5,8,9,10] rfl kR (λ_ _ _ _ h=>h) kR (.slice (some ⟨g2,0,none⟩) NR NR) qP ?_
      refine Sy.stepDB 3 [4,5,8,9,10] rfl kR (λ_ _ _ _ h=>h) kR (.int .i64 ((k1:Nat):Int)) qP ?_
      refine Sy.stepDB 4 [5,8,9,10] rfl kR (λ_ _ _ _ h=>h) kR (.pointer (some ⟨g2,0+k1*1,none⟩)) (Quiet.pure (Bf 29 _ _ _ g2 0 NR NR k1 1 .i64 rfl rfl rfl Tryz.underlying29 kF (by omega))) ?_
      refine sD 5 rfl ((y2.1 k1).v) (Quiet.cell 2 g2 (0+k1*1) 55 55 (Aj y2.1 NR) _ _ rfl kR kR Tryz.underlying55 rfl _ (Ci (by omega) rfl)) ?_
      refine Sy.stepDB 6 [7,8,9,10] rfl kR (λ_ _ _ _ h=>h) kR (fv (eE s bm X Y I d k1 k2)) (qL 4 g5 0 4 46 46 (fcs (eE s bm X Y I d k1 k2)) rfl Tryz.underlying46) ?_
      refine Sy.makeD 7 rfl kR kR 46 (fcs (eE s bm X Y I d k1 k2)) (λg=>.slice (some ⟨g,0,none⟩) 1 1) kF (λg6=>?_)
      refine Sy.movTD ?_
      refine Sy.soleD 8 rfl (λQ2 hq2=>?_)
      refine Sy.permS (Sy.out_perm y2.1 (i:=k1) (by omega)) ?_
      refine Sy.appendR kR 55 46 _ _ 4 32 Tryz.underlying55 Ix rfl rfl rfl rfl (by decide) _ _ rfl (hh2.1 k1) kR (fws (eE s bm X Y I d k1 k2)) rfl (Dc _) 5 g6 46 kR kR (by rw [List.length_map,List.length_range,Dd]; omega) (by rw [List.length_map,List.length_range,Dd]; simp only [maxLen]; omega) (λr2 hr2=>?_)
      refine hq2 _ _ ?_
      refine Sy.anyOf [9] kR (by decide) (Sy.each1 ?_)
      refine Sy.oneQuiet rfl kR (.pointer (some ⟨g2,0+k1*1,none⟩)) (Quiet.pure (Bf 29 _ _ _ g2 0 NR NR k1 1 .i64 rfl rfl rfl Tryz.underlying29 kF (by omega))) ?_
      refine Sy.writeD 10 rfl kR (by rfl) kR 2 g2 55 (Aj y2.1 NR) (Aj (Cz y2.1 k1 r2) NR) kR (Writes.one (0+k1*1) 55 (r2.v) _ _ rfl kR kR kR hr2.cells.1 hr2.cells.2 (JT (by omega) rfl) (Hn (by omega) rfl rfl)) ?_
      refine Sy.setTD ?_
      refine Sy.permD (Sy.in_perm (by omega)) ?_
      refine sI ?_
      refine Sy.regionD (λj=>false) kR ?_
      refine sD 0 rfl (fv (s k1 k2)) (qL 3 g4 0 4 46 46 (fcs (s k1 k2)) rfl Tryz.underlying46)<|sD 1 rfl (fv (eE s bm X Y I d k1 k2)) (qL 4 g5 0 4 46 46 (fcs (eE s bm X Y I d k1 k2)) rfl Tryz.underlying46)<|sZ 2 rfl (.pointer (some ⟨g0,0,none⟩))<|sD 3 rfl (.slice R NR cR) (Quiet.cell 0 g0 0 83 25 (Af R NR cR bm).toArray _ _ rfl kR kR Tryz.underlying25 rfl _ kR)<|sZ 4 rfl (.int .i64 ((k1:Nat):Int))<|sD 5 rfl (.pointer (some ⟨gR,oR+k1*1,none⟩)) (Quiet.pure (AJ 25 _ _ _ R gR oR NR cR k1 1 .i64 (hR (by omega)).1 rfl rfl rfl Tryz.underlying25 kF (by omega)))<|sD 6 rfl (.slice (a k1) (nk k1) (ck k1)) (Quiet.thereOne gR (oR+k1*1) 49 _ _ rfl kR (hR (by omega)).2.1 _ (AR ((hR (by omega)).2.2 k1 (by omega)) 0 rfl) Tryz.underlying49 rfl)<|sZ 7 rfl (.int .i64 ((k2:Nat):Int)) ?_
      refine sD 8 rfl (.pointer (some ⟨gK,oK+k2*9,none⟩)) (Quiet.pure (AJ 49 _ _ _ (a k1) gK oK (nk k1) (ck k1) k2 9 .i64 (hT (by omega)).1 rfl rfl rfl Tryz.underlying49 kF (by omega)))<|sD 9 rfl (pv (X k1 k2) (Y k1 k2) (I k1 k2)) (Quiet.there gK (oK+k2*9) 9 52 (pml (X k1 k2) (Y k1 k2) (I k1 k2)) _ _ rfl kR (hT (by omega)).2.1 ((hT (by omega)).2.2 k2 (by omega)) Tryz.underlying52 rfl kR rfl _ rfl) ?_
      refine Sy.callND 10 rfl kR kR 117 #[fv (s k1 k2),fv (eE s bm X Y I d k1 k2),pv (X k1 k2) (Y k1 k2) (I k1 k2)] kF ((D3 (rPt (s k1 k2) (eE s bm X Y I d k1 k2) (X k1 k2) (Y k1 k2) (I k1 k2)))) (λw hw=>Ee w _ _ _ _ _ (hsc _ _) (OQ _ _) (hX _ _) (hY _ _)) (λvq Mq hR0=>?_)
      obtain ⟨q7,rfl,rfl⟩:=hR0
      refine Sy.movTD ?_
      refine sZ 11 rfl (.slice (some ⟨q7,0,none⟩) 33 33) ?_
      refine sE ?_
      refine Sy.in_<|Sy.then_<|Sy.region ?_
      refine sS (.int .i64 ((k2+1:Nat):Int)) (Quiet.pure (AC .add _ _ _ .i64 _ _ _ rfl rfl rfl (AO _ _ _ _ _ ((AH (by omega) (by omega)).trans (by omega)))))<|sP (.int .i64 ((k2+1:Nat):Int)) ?_
      refine Sy.nil ?_
      exact Sy.againT ((Cz y2.1 k1 r2,(⟨some ⟨q7,0,none⟩,A3 (rPt (s k1 k2) (eE s bm X Y I d k1 k2) (X k1 k2) (Y k1 k2) (I k1 k2)),33⟩:Sh.Tx),[(q7,188,((A3 (rPt (s k1 k2) (eE s bm X Y I d k1 k2) (X k1 k2) (Y k1 k2) (I k1 k2))).map bv).toArray)])) (by omega) (⟨hh2.1.put' hr2 rfl,by rw [EE]; exact .inr ⟨Nat.succ_pos _,A4 _,q7,rfl,rfl⟩,λi hi=>(Nat.lt_succ_iff_lt_or_eq.1 hi).elim (hh2.2.2 i) (λh=>by rw [h]; exact hnorm)⟩) SK (λw hw=>St.pick3 (pre:=[(g0,83,(Af R NR cR bm).toArray),(g1,31,(AK d W NR cW).toArray),(g2,55,(Aj (Cz y2.1 k1 r2) NR)),(g4,46,(fcs (s k1 k2))),(g5,46,(fcs (eE s bm X Y I d k1 k2))),(g6,46,(fcs (eE s bm X Y I d k1 k2))),(q7,188,((A3 (rPt (s k1 k2) (eE s bm X Y I d k1 k2) (X k1 k2) (Y k1 k2) (I k1 k2))).map bv).toArray)]) (M:=[(g0,83,(Af R NR cR bm).toArray),(g1,31,(AK d W NR cW).toArray),(g2,55,(Aj (Cz y2.1 k1 r2) NR))]) (N:=[(q7,188,((A3 (rPt (s k1 k2) (eE s bm X Y I d k1 k2) (X k1 k2) (Y k1 k2) (I k1 k2))).map bv).toArray)]) [0,1,2,6] (by decide) kR hw)
     ·have lb7:(s k1 k2%Sc.pM)≠(s k1 k2):=of_decide_eq_true hb7.symm
      refine sT<|Sy.exit<|Sy.then_exit ?_
      refine Sy.in_pass (by decide) ?_
      refine Sy.then_exit<|Sy.then_exit ?_
      refine Sy.in_pass (by decide) ?_
      refine Sy.then_exit ?_
      refine Sy.in_pass (by decide) ?_
      refine Sy.then_exit<|Sy.then_exit<|Sy.in_exit<|Sy.then_<|Sy.seq<|Sy.seq ?_
      refine Sy.regionD (λj=>false) kR ?_
      refine sZ 0 rfl (y1.2.1.v)<|sD 1 rfl (.int .i64 ((k1:Nat):Int)) (Quiet.lenR hh1.2.1.row (by rw [List.length_map]; exact hh1.2.2.2.1) _ Tryz.underlying86 rfl rfl)<|sZ 2 rfl (.pointer (some ⟨g0,0,none⟩))<|sD 3 rfl (.slice R NR cR) (Quiet.cell 0 g0 0 83 25 (Af R NR cR bm).toArray _ _ rfl kR kR Tryz.underlying25 rfl _ kR)<|sZ 4 rfl (.int .i64 ((NR:Nat):Int)) ?_
      obtain ⟨b8,hb8⟩:∃ z:Bool,z=decide (k1≠NR):=⟨_,rfl⟩
      refine sD 5 rfl (.bool b8) (Quiet.pure (AC .neq _ _ _ .i64 _ _ _ rfl rfl rfl (Bl _ _ _ _ _ (by rw [hb8]; exact decide_eq_decide.2 (by omega)))))<|sZ 6 rfl (.bool b8) ?_
      cases b8
      ·have lb8:¬ (k1≠NR):=of_decide_eq_false hb8.symm
       exact absurd (show k1≠NR by omega) lb8
      ·have lb8:k1≠NR:=of_decide_eq_true hb8.symm
       refine sQ 7 rfl<|sQ 8 rfl<|sQ 9 rfl<|sQ 10 rfl<|sQ 11 rfl<|sQ 12 rfl<|sZ 13 rfl (.bool true) ?_
       refine sI ?_
       refine sT<|sC ?_
       refine sP (.slice none 0 0)<|sP (.bool false) ?_
       refine sG<|Sy.ret<|Sy.then_ret ?_
       refine Sy.sc_r ?_
       exact Bb [] rfl (v:=.slice none 0 0) (u:=.bool false) (.inl (show _=_ by kernel_rfl)) (.inl (show _=_ by kernel_rfl)) (λ_ hw=>hw.none) (.inl ⟨F3 (by assumption) (Hp (by assumption) lb7),rfl,rfl⟩)
   ·have lb5:(sn k1)≠(nk k1):=of_decide_eq_true hb5.symm
    refine sT<|Sy.exit<|Sy.then_exit ?_
    refine Sy.in_pass (by decide) ?_
    refine Sy.then_exit<|Sy.then_exit<|Sy.in_exit<|Sy.then_<|Sy.seq<|Sy.seq ?_
    refine Sy.regionD (λj=>false) kR ?_
    refine sZ 0 rfl (y1.2.1.v)<|sD 1 rfl (.int .i64 ((k1:Nat):Int)) (Quiet.lenR hh1.2.1.row (by rw [List.length_map]; exact hh1.2.2.2.1) _ Tryz.underlying86 rfl rfl)<|sZ 2 rfl (.pointer (some ⟨g0,0,none⟩))<|sD 3 rfl (.slice R NR cR) (Quiet.cell 0 g0 0 83 25 (Af R NR cR bm).toArray _ _ rfl kR kR Tryz.underlying25 rfl _ kR)<|sZ 4 rfl (.int .i64 ((NR:Nat):Int)) ?_
    obtain ⟨b9,hb9⟩:∃ z:Bool,z=decide (k1≠NR):=⟨_,rfl⟩
    refine sD 5 rfl (.bool b9) (Quiet.pure (AC .neq _ _ _ .i64 _ _ _ rfl rfl rfl (Bl _ _ _ _ _ (by rw [hb9]; exact decide_eq_decide.2 (by omega)))))<|sZ 6 rfl (.bool b9) ?_
    cases b9
    ·have lb9:¬ (k1≠NR):=of_decide_eq_false hb9.symm
     exact absurd (show k1≠NR by omega) lb9
    ·have lb9:k1≠NR:=of_decide_eq_true hb9.symm
     refine sQ 7 rfl<|sQ 8 rfl<|sQ 9 rfl<|sQ 10 rfl<|sQ 11 rfl<|sQ 12 rfl<|sZ 13 rfl (.bool true) ?_
     refine sI ?_
     refine sT<|sC ?_
     refine sP (.slice none 0 0)<|sP (.bool false) ?_
     refine sG<|Sy.ret<|Sy.then_ret ?_
     refine Sy.sc_r ?_
     exact Bb [] rfl (v:=.slice none 0 0) (u:=.bool false) (.inl (show _=_ by kernel_rfl)) (.inl (show _=_ by kernel_rfl)) (λ_ hw=>hw.none) (.inl ⟨F3 (by assumption) (Hq lb5),rfl,rfl⟩)
 ·have lb1:NW≠NR:=of_decide_eq_true hb1.symm
  refine sT<|sC ?_
  refine sP (.slice none 0 0)<|sP (.bool false) ?_
  refine sG<|Sy.ret<|Sy.then_ret ?_
  refine Sy.sc_r ?_
  exact Bb [] rfl (v:=.slice none 0 0) (u:=.bool false) (.inl (show _=_ by kernel_rfl)) (.inl (show _=_ by kernel_rfl)) (λ_ hw=>hw.none) (.inl ⟨L7 lb1,rfl,rfl⟩)
end Cu
end
section
namespace Sy
open Go.RowKit
section
variable {r:Nat→Slc} {n i:Nat} {pre A B C D M N T:AE} {b b':Nat×TypeId×Array Value} {v:Value} {w0:Base} {w:World}
theorem end_perm:((pre++(A++B))++D).Perm (pre++(A++(B++D))):=by
 rw [List.append_assoc,List.append_assoc]
theorem end_perm3:((pre++(A++(B++C)))++D).Perm (pre++(A++(B++(C++D)))):=by
 rw [List.append_assoc,List.append_assoc,List.append_assoc]
theorem out1 (r:Nat→Slc) (hi:i<n) (hb:(r i).bl=[b]):(pre++(BK r n++T)).Perm ((pre++[b])++(Dq r n i++T)):=by
 have h:=out_perm (pre:=pre) (T:=T) r hi
 rw [hb] at h
 rwa [List.append_assoc]
theorem St.back1 (hi:i<n) (hw:St w0 w ((M++[b'])++(Dq r n i++T))):St w0 w (M++(BK (Cz r i ⟨v,[b']⟩) n++[])):=by
 have h1:((M++[b'])++(Dq r n i++[])).Sublist ((M++[b'])++(Dq r n i++T)):=(List.Sublist.refl _).append ((List.Sublist.refl _).append (List.nil_sublist _))
 refine (hw.less h1).perm ?_
 rw [List.append_assoc]
 exact in_perm (x:=⟨v,[b']⟩) hi
theorem KX {x:Slc} (h:x.v=(r i).v):Aj (Cz r i x) n=Aj r n:=by
 unfold Aj
 refine congrArg List.toArray (Be λj _=>?_)
 by_cases hj:j=i
 ·rw [hj,D8,h]
 ·rw [Ft hj]
theorem RowsAre.upd {e:TypeId} {sz:Nat} {f f':Nat→Nat→List Value} {c:Nat→Nat} {x:Slc} (h:RowsAre r e sz f c) (hx:x.Is e sz ((List.range (c i)).map (f' i))) (hf:∀ j,j≠i→f' j=f j):RowsAre (Cz r i x) e sz f' c:=λj=>by
 by_cases hj:j=i
 ·subst hj; rw [D8]; exact hx
 ·rw [Ft hj,hf j hj]; exact h j
theorem St.pick4 (is:List Nat) (hn:is.Nodup) (hm:is.map (λi=>pre[i]?)=(M++N).map some) (hw:St w0 w (pre++(A++(B++(C++D))))):St w0 w (M++(A++(B++(C++(D++N))))):=by
 have h2:=St.pick2 (a:=A++B) (T:=C++D) is hn hm (by rwa [List.append_assoc])
 rwa [List.append_assoc,List.append_assoc C] at h2
end
theorem Slc.Is.open {r:Slc} {e:TypeId} {sz m:Nat} {f:Nat→List Value} (h:r.Is e sz ((List.range m).map f)) (hm:0<m):∃ g cap sp,r.v=.slice (some ⟨g,0,none⟩) m cap∧r.bl=[(g,e,(AV f m++sp).toArray)]∧sp.length+m*sz=cap*sz∧m≤cap∧cap≤maxLen:=by
 rcases h.row with ⟨h0,_⟩ | ⟨g,cap,sp,rfl,h1,h2,h3⟩
 ·have:=congrArg List.length h0
  simp at this
  omega
 ·rw [List.length_map,List.length_range] at h1 h2
  exact ⟨g,cap,sp,by rw [List.length_map,List.length_range],by rw [show ((List.range m).map f).flatten=AV f m from (List.flatMap_def ..).symm],h1,h2,h3⟩
theorem Slc.Is.close {e:TypeId} {sz m g cap:Nat} {f:Nat→List Value} {sp:List Value} (hf:∀ k,(f k).length=sz) (h1:∀ k, ∀ u∈f k,u.oneCell'=true) (hs:sp.length+m*sz=cap*sz) (hm:m≤cap) (hc:cap≤maxLen):Slc.Is ⟨.slice (some ⟨g,0,none⟩) m cap,[(g,e,(AV f m++sp).toArray)]⟩ e sz ((List.range m).map f) :=
 ⟨λx hx=>by obtain ⟨k,_,rfl⟩:=List.mem_map.1 hx; exact hf k,λx hx=>by obtain ⟨k,_,rfl⟩:=List.mem_map.1 hx; exact h1 k,.inr ⟨g,cap,sp,by rw [List.length_map,List.length_range,show ((List.range m).map f).flatten=AV f m from (List.flatMap_def ..).symm],by rw [List.length_map,List.length_range]; exact hs,by rw [List.length_map,List.length_range]; exact hm,hc⟩⟩
theorem Lf {w0:Base} {w:World} {L:AE} {g sz m:Nat} {e:TypeId} {f:Nat→List Value} {sp:List Value} (hf:∀ k,(f k).length=sz) (hw:St w0 w L) (hb:(g,e,(AV f m++sp).toArray)∈L):Lst w sz (some ⟨g,0,none⟩) m f:=by
 have hbk:=(hw.blk _ _ _ hb).2
 refine ⟨g,0,λ_=>⟨rfl,hbk.lt,λj hj=>?_⟩⟩
 rw [Nat.zero_add]
 refine Bz hbk ?_
 show (((AV f m++sp)).drop (j*sz)).take _=_
 rw [hf j,Cw hj,List.append_assoc,List.drop_append_of_le_length (by rw [As hf]; exact Nat.le_refl _),List.drop_of_length_le (by rw [As hf]; exact Nat.le_refl _),List.nil_append,List.append_assoc,List.take_left' (hf j)]
theorem Mo {f:Nat→List Value} {sz m k o:Nat} {sp v:List Value} (hf:∀ k,(f k).length=sz) (hv:v.length=sz) (hk:k<m) (ho:o=0+k*sz):setAll (AV f m++sp).toArray o v=(AV (λj=>if j=k then v else f j) m++sp).toArray:=by
 have hl:=As hf m
 have hkm:k*sz+sz≤m*sz:=by have:=Nat.mul_le_mul_right sz (show k+1≤m from hk); rwa [Nat.succ_mul] at this
 have h1:=Ch v o (AV f m++sp).toArray (by rw [List.size_toArray,List.length_append]; omega)
 have h2:=Ch v o (AV f m).toArray (by rw [List.size_toArray]; omega)
 have h3:=Gm (f:=f) hf hv hk (show o=k*sz by omega)
 rw [h2] at h3
 have h4:=congrArg Array.toList h3
 rw [h1]
 refine congrArg List.toArray ?_
 simp only at h4 ⊢
 rw [← h4,List.take_append_of_le_length (by omega),List.drop_append_of_le_length (by omega),List.append_assoc,List.append_assoc]
theorem FI {f:Nat→List Value} {sz m k o:Nat} {sp:List Value} (hf:∀ k,(f k).length=sz) (hk:k<m) (ho:o=0+k*sz):o+sz≤(AV f m++sp).toArray.size:=by
 have hkm:k*sz+sz≤m*sz:=by have:=Nat.mul_le_mul_right sz (show k+1≤m from hk); rwa [Nat.succ_mul] at this
 rw [List.size_toArray,List.length_append,As hf]
 omega
end Sy
end
section
namespace Cu
open Go.RowKit Sy
def Ai (z:Int) (x:Nat):List Value:=.int .i64 z::fws x
section
variable (At:Nat→Int) (sx:Nat→Nat) (n:Nat→Nat) (X Y:Nat→Nat→Nat) (I:Nat→Nat→Bool)
def Fi (i:Nat):Bool:=decide (0≤At i) && (decide (At i<(n i:Int)) && Bq (sx i) (X i (At i).toNat) (Y i (At i).toNat) (I i (At i).toNat))
def Di (NS NR:Nat):Bool:=decide (NS=NR) && (List.range NR).all (Fi At sx n X Y I)
end
section
variable {At:Nat→Int} {sx:Nat→Nat} {n:Nat→Nat} {X Y:Nat→Nat→Nat} {I:Nat→Nat→Bool} {NS NR k q:Nat}
theorem Pv (h:At k<0):Fi At sx n X Y I k=false:=by unfold Fi; rw [decide_eq_false (by omega:¬ 0≤At k)]; rfl
theorem OD (h:At k ≥ ((n k:Nat):Int)):Fi At sx n X Y I k=false:=by unfold Fi; rw [decide_eq_false (by omega:¬ At k<(n k:Int)),Bool.false_and,Bool.and_false]
theorem K8 (h1:¬ At k<0) (h2:¬ At k ≥ ((n k:Nat):Int)) (hq:At k=(q:Int)):Fi At sx n X Y I k=Bq (sx k) (X k q) (Y k q) (I k q):=by
 unfold Fi
 rw [decide_eq_true (by omega:0≤At k),decide_eq_true (by omega:At k<(n k:Int)),hq]
 rfl
theorem OE (h:¬ NS=NR):Di At sx n X Y I NS NR=false:=by unfold Di; rw [decide_eq_false h]; rfl
theorem I1 (hk:k<NR) (h:Fi At sx n X Y I k=false):Di At sx n X Y I NS NR=false:=by
 unfold Di
 rw [show (List.range NR).all (Fi At sx n X Y I)=false from List.all_eq_false.2 ⟨k,List.mem_range.2 hk,by rw [h]; decide⟩,Bool.and_false]
theorem Jy (h1:NS=NR) (h:∀ j,j<NR→Fi At sx n X Y I j=true):Di At sx n X Y I NS NR=true:=by
 unfold Di
 rw [decide_eq_true h1,List.all_eq_true.2 λj hj=>h j (List.mem_range.1 hj)]
 rfl
end
set_option maxHeartbeats 4000000 in
set_option maxRecDepth 100000 in
theorem Pw (w:World) (S:Option Addr) (NS cS:Nat) (At:Nat→Int) (sx:Nat→Nat) (hsx:∀ i,sx i<K4) (hNS:NS≤4611686018427387904) (hls:Lst w 5 S NS (λi=>Ai (At i) (sx i))) (R:Option Addr) (NR cR:Nat) (a:Nat→Option Addr) (n c:Nat→Nat) (X Y:Nat→Nat→Nat) (I:Nat→Nat→Bool) (hX:∀ i k,X i k<K4) (hY:∀ i k,Y i k<K4) (hNR:NR≤4611686018427387904) (hn:∀ i,n i≤4611686018427387904) (hlr:Lst w 1 R NR (λi=>[.slice (a i) (n i) (c i)])) (hlk:∀ i,i<NR→Lst w 9 (a i) (n i) (λk=>pml (X i k) (Y i k) (I i k))):Calls Tryz.prog 43 #[.slice S NS cS,.slice R NR cR] w (Gets w (.bool (Di At sx n X Y I NS NR))):=by
 have hls0:=hls
 obtain ⟨gS,oS,hS⟩:=hls
 have hlr0:=hlr
 obtain ⟨gR,oR,hR⟩:=hlr
 refine Sy.enter (args:=[.slice S NS cS,.slice R NR cR]) Tryz.func43 rfl kL ?_
 refine sC ?_
 refine sP (.bool false) ?_
 refine sG<|Sy.seq<|sC ?_
 refine sP (.slice S NS cS)<|sP (.int .i64 ((NS:Nat):Int))<|sP (.slice R NR cR)<|sP (.int .i64 ((NR:Nat):Int)) ?_
 obtain ⟨b1,hb1⟩:∃ z:Bool,z=decide (NS≠NR):=⟨_,rfl⟩
 refine sS (.bool b1) (Quiet.pure (AC .neq _ _ _ .i64 _ _ _ rfl rfl rfl (Bl _ _ _ _ _ (by rw [hb1]; exact decide_eq_decide.2 (by omega))))) ?_
 refine sG ?_
 cases b1
 ·have lb1:¬ (NS≠NR):=of_decide_eq_false hb1.symm
  refine sU<|Sy.skip<|Sy.then_<|Sy.seq<|sC ?_
  refine sP (.slice R NR cR)<|sP (.int .i64 ((NR:Nat):Int))<|sP (.int .i64 0) ?_
  refine sG<|Sy.block ?_
  refine Sy.loopH NR (λk1=>∀ j,j<k1→Fi At sx n X Y I j=true) (λk1=>[(0,.slice S NS cS),(1,.slice R NR cR),(13,.slice R NR cR),(14,.int .i64 ((NR:Nat):Int)),(15,.int .i64 ((k1:Nat):Int))]) (λk1=>[]) [] (M:=[]) (λj hj=>absurd hj (Nat.not_lt_zero _)) ac5 kR rfl (λk1 hk1 hh=>?_)
  have hh1:=hh
  refine sC ?_
  obtain ⟨b2,hb2⟩:∃ z:Bool,z=decide (k1<NR):=⟨_,rfl⟩
  refine sS (.bool b2) (Quiet.pure (AC .lss _ _ _ .i64 _ _ _ rfl rfl rfl (AY _ _ _ _ _ (by rw [hb2]; exact decide_eq_decide.2 (by omega))))) ?_
  refine sG<|Sy.seq ?_
  cases b2
  ·have lb2:¬ (k1<NR):=of_decide_eq_false hb2.symm
   refine sU<|Sy.exit<|Sy.then_exit<|Sy.then_exit ?_
   obtain rfl:NR=k1:=by omega
   refine Sy.in_exit<|sB ?_
   refine sP (.bool true) ?_
   refine sG<|Sy.ret ?_
   rw [show (.bool (Di At sx n X Y I NS NR):Value)=.bool true from by rw [Jy (by omega) (λj hj=>hh1 j (by omega))]]
   exact rV (.bool true) rfl
  ·have lb2:k1<NR:=of_decide_eq_true hb2.symm
   refine sT<|Sy.skip<|Sy.then_<|Sy.seq<|Sy.block<|sC ?_
   refine sP (.int .i64 ((k1:Nat):Int))<|sS (.pointer (some ⟨gR,oR+k1*1,none⟩)) (Quiet.pure (AJ 25 _ _ _ R gR oR NR cR k1 1 .i64 (hR (by omega)).1 rfl rfl rfl Tryz.underlying25 kF (by omega)))<|sS (.slice (a k1) (n k1) (c k1)) (Quiet.thereOne gR (oR+k1*1) 49 _ _ rfl kR (hR (by omega)).2.1 _ (AR ((hR (by omega)).2.2 k1 (by omega)) 0 rfl) Tryz.underlying49 rfl)<|sP (.int .i64 ((k1:Nat):Int))<|sP (.slice (a k1) (n k1) (c k1)) ?_
   refine sA ?_
   refine sP (.slice S NS cS)<|sP (.int .i64 ((k1:Nat):Int))<|sS (.pointer (some ⟨gS,oS+k1*5,none⟩)) (Quiet.pure (AJ 26 _ _ _ S gS oS NS cS k1 5 .i64 (hS (by omega)).1 rfl rfl rfl Tryz.underlying26 kF (by omega)))<|sP (.pointer (some ⟨gS,oS+k1*5+0,none⟩))<|sS (.int .i64 (At k1)) (Quiet.thereOne gS (oS+k1*5+0) 3 _ _ rfl kR (hS (by omega)).2.1 _ (AR ((hS (by omega)).2.2 k1 (by omega)) 0 rfl) Tryz.underlying3 rfl)<|sP (.int .i64 (At k1)) ?_
   refine sH (λj=>false) ?_
   refine sZ 0 rfl (.int .i64 (At k1)) ?_
   obtain ⟨b3,hb3⟩:∃ z:Bool,z=decide ((At k1)<0):=⟨_,rfl⟩
   refine sD 1 rfl (.bool b3) (Quiet.pure (AC .lss _ _ _ .i64 _ _ _ rfl rfl rfl (AY _ _ _ _ _ hb3.symm)))<|sZ 2 rfl (.bool b3) ?_
   cases b3
   ·have lb3:¬ ((At k1)<0):=of_decide_eq_false hb3.symm
    refine sZ 3 rfl (.int .i64 (At k1))<|sZ 4 rfl (.slice (a k1) (n k1) (c k1))<|sZ 5 rfl (.int .i64 (((n k1):Nat):Int)) ?_
    obtain ⟨b4,hb4⟩:∃ z:Bool,z=decide ((At k1) ≥ (((n k1):Nat):Int)):=⟨_,rfl⟩
    refine sD 6 rfl (.bool b4) (Quiet.pure (AC .geq _ _ _ .i64 _ _ _ rfl rfl rfl (D' _ _ _ _ _ hb4.symm)))<|sZ 7 rfl (.bool b4)<|sZ 8 rfl (.bool b4) ?_
    cases b4
    ·have lb4:¬ ((At k1) ≥ (((n k1):Nat):Int)):=of_decide_eq_false hb4.symm
     refine sZ 9 rfl (.slice S NS cS)<|sZ 10 rfl (.int .i64 ((k1:Nat):Int))<|sD 11 rfl (.pointer (some ⟨gS,oS+k1*5,none⟩)) (Quiet.pure (AJ 26 _ _ _ S gS oS NS cS k1 5 .i64 (hS (by omega)).1 rfl rfl rfl Tryz.underlying26 kF (by omega)))<|sZ 12 rfl (.pointer (some ⟨gS,oS+k1*5+1,none⟩))<|sD 13 rfl (fv (sx k1)) (Quiet.there gS (oS+k1*5+1) 4 46 (fws (sx k1)) _ _ rfl kR (hS (by omega)).2.1 (MW ((hS (by omega)).2.2 k1 (by omega)) 1 rfl) Tryz.underlying46 rfl kR rfl _ rfl)<|sZ 14 rfl (.slice (a k1) (n k1) (c k1))<|sZ 15 rfl (.int .i64 (At k1)) ?_
     obtain ⟨gK,oK,hT⟩:=hlk k1 (by omega)
     obtain ⟨q1,hq1⟩:∃ q:Nat,(At k1)=(q:Int):=⟨((At k1)).toNat,by omega⟩
     refine sD 16 rfl (.pointer (some ⟨gK,oK+q1*9,none⟩)) (Quiet.pure (AJ 49 _ _ _ (a k1) gK oK (n k1) (c k1) q1 9 .i64 (hT (by omega)).1 rfl rfl (show Value.int .i64 (At k1)=.int .i64 ((q1:Nat):Int) from by rw [hq1]) Tryz.underlying49 kF (by omega)))<|sD 17 rfl (pv (X k1 q1) (Y k1 q1) (I k1 q1)) (Quiet.there gK (oK+q1*9) 9 52 (pml (X k1 q1) (Y k1 q1) (I k1 q1)) _ _ rfl kR (hT (by omega)).2.1 ((hT (by omega)).2.2 q1 (by omega)) Tryz.underlying52 rfl kR rfl _ rfl) ?_
     obtain ⟨b5,hb5⟩:∃ z:Bool,z=Bq (sx k1) (X k1 q1) (Y k1 q1) (I k1 q1):=⟨_,rfl⟩
     refine sD 18 rfl (.bool b5) (qF 99 #[fv (sx k1),pv (X k1 q1) (Y k1 q1) (I k1 q1)] (λw=>by rw [hb5]; exact H3 w _ _ _ _ (hsx k1) (hX k1 q1) (hY k1 q1))) ?_
     cases b5
     ·refine sZ 19 rfl (.bool true)<|sZ 20 rfl (.bool true) ?_
      refine sI ?_
      refine sT<|sC ?_
      refine sP (.bool false) ?_
      refine sG<|Sy.ret<|Sy.in_ret<|Sy.then_ret<|Sy.then_ret<|Sy.in_ret<|Sy.then_ret ?_
      rw [show (.bool (Di At sx n X Y I NS NR):Value)=.bool false from by rw [I1 (by omega) ((K8 lb3 lb4 hq1).trans hb5.symm)]]
      exact rV (.bool false) rfl
     ·refine sZ 19 rfl (.bool false)<|sZ 20 rfl (.bool false) ?_
      refine sI ?_
      refine sU<|Sy.skip<|Sy.in_<|Sy.then_<|Sy.region ?_
      refine sS (.int .i64 ((k1+1:Nat):Int)) (Quiet.pure (AC .add _ _ _ .i64 _ _ _ rfl rfl rfl (AO _ _ _ _ _ ((AH (by omega) (by omega)).trans (by omega)))))<|sP (.int .i64 ((k1+1:Nat):Int)) ?_
      refine Sy.nil ?_
      exact Sy.againH [] (M:=[]) (by omega) (λj hj=>(Nat.lt_succ_iff_lt_or_eq.1 hj).elim (hh1 j) (λh=>by rw [h]; exact (K8 lb3 lb4 hq1).trans hb5.symm)) ac5 kR rfl
    ·have lb4:(At k1) ≥ (((n k1):Nat):Int):=of_decide_eq_true hb4.symm
     refine sQ 9 rfl<|sQ 10 rfl<|sQ 11 rfl<|sQ 12 rfl<|sQ 13 rfl<|sQ 14 rfl<|sQ 15 rfl<|sQ 16 rfl ?_
     refine sQ 17 rfl<|sQ 18 rfl<|sQ 19 rfl<|sZ 20 rfl (.bool true) ?_
     refine sI ?_
     refine sT<|sC ?_
     refine sP (.bool false) ?_
     refine sG<|Sy.ret<|Sy.in_ret<|Sy.then_ret<|Sy.then_ret<|Sy.in_ret<|Sy.then_ret ?_
     rw [show (.bool (Di At sx n X Y I NS NR):Value)=.bool false from by rw [I1 (by omega) (OD lb4)]]
     exact rV (.bool false) rfl
   ·have lb3:(At k1)<0:=of_decide_eq_true hb3.symm
    refine sQ 3 rfl<|sQ 4 rfl<|sQ 5 rfl<|sQ 6 rfl<|sZ 7 rfl (.bool true)<|sZ 8 rfl (.bool true)<|sQ 9 rfl<|sQ 10 rfl ?_
    refine sQ 11 rfl<|sQ 12 rfl<|sQ 13 rfl<|sQ 14 rfl<|sQ 15 rfl<|sQ 16 rfl<|sQ 17 rfl<|sQ 18 rfl ?_
    refine sQ 19 rfl<|sZ 20 rfl (.bool true) ?_
    refine sI ?_
    refine sT<|sC ?_
    refine sP (.bool false) ?_
    refine sG<|Sy.ret<|Sy.in_ret<|Sy.then_ret<|Sy.then_ret<|Sy.in_ret<|Sy.then_ret ?_
    rw [show (.bool (Di At sx n X Y I NS NR):Value)=.bool false from by rw [I1 (by omega) (Pv lb3)]]
    exact rV (.bool false) rfl
 ·have lb1:NS≠NR:=of_decide_eq_true hb1.symm
  refine sT<|sC ?_
  refine sP (.bool false) ?_
  refine sG<|Sy.ret<|Sy.then_ret ?_
  rw [show (.bool (Di At sx n X Y I NS NR):Value)=.bool false from by rw [OE lb1]]
  exact rV (.bool false) rfl
end Cu
end
section
namespace Cu
open Go.RowKit Sy
section
variable (bm sd:List UInt8) (X Y:Nat→Nat→Nat) (I:Nat→Nat→Bool) (at_:Nat→Nat) (nk:Nat→Nat) (sx:Nat→Nat)
def sgX (i:Nat):List UInt8:=A3 (evP (rgN bm sd i))
def sgL (i:Nat):List UInt8:=alX (rgF bm sd i) bm i (at_ i+1) (X i) (Y i) (I i) (sgX bm sd i) (nk i - (at_ i+1))
def ET:Nat→List UInt8
 | 0=>[]
 | k+1=>ET k++sgL bm sd X Y I at_ nk k
def sgD (NR:Nat):List UInt8:=rgT bm (ET bm sd X Y I at_ nk NR)
def sgE (d:List UInt8) (i:Nat):Nat:=rgC bm (alX (rgF bm sd i) bm i 0 (X i) (Y i) (I i) d (at_ i)) i (at_ i)
def sgS (d:List UInt8) (i j:Nat):Nat:=if j=at_ i then Sc.subP (rgN bm sd i) (Sc.mulP (sgE bm sd X Y I at_ d i) (sx i)) else rgF bm sd i j
def sgK (d:List UInt8) (k i j:Nat):List Value:=fws (if i<k then sgS bm sd X Y I at_ sx d i j else rgF bm sd i j)
def sgF (d:List UInt8) (i j:Nat):List Value:=fws (sgS bm sd X Y I at_ sx d i j)
end
section
variable {bm sd:List UInt8} {X Y:Nat→Nat→Nat} {I:Nat→Nat→Bool} {at_:Nat→Nat} {nk:Nat→Nat} {sx:Nat→Nat} {d:List UInt8}
theorem IR (i:Nat):(sgX bm sd i).length=33:=A4 _
theorem RT {s:Nat→Nat} {i f k:Nat} {X Y:Nat→Nat} {I:Nat→Bool} {x:List UInt8} (h:x.length=33):(alX s bm i f X Y I x k).length=33:=by
 rcases Nat.eq_zero_or_pos k with h0 | h0
 ·rw [h0]; exact h
 ·exact F6 h0
theorem Ld (i:Nat):(sgL bm sd X Y I at_ nk i).length=33:=RT (IR i)
theorem GJ:∀ k,(ET bm sd X Y I at_ nk k).length=33*k
 | 0=>rfl
 | k+1=>by
  show (ET bm sd X Y I at_ nk k++_).length=_
  rw [List.length_append,GJ k,Ld]
  omega
theorem IU (NR:Nat):(sgD bm sd X Y I at_ nk NR).length=32:=Fs _ _
theorem Qh (i j:Nat):sgS bm sd X Y I at_ sx d i j<K4:=by
 unfold sgS
 split
 ·exact Sc.subP_lt _ _
 ·exact CT _ _ _ _
theorem NO:sgK bm sd X Y I at_ sx d 0=fkF bm sd:=by
 funext i j
 unfold sgK fkF
 rw [if_neg (Nat.not_lt_zero _)]
theorem Ql (k:Nat):sgK bm sd X Y I at_ sx d k k=λj=>fws (rgF bm sd k j):=by
 funext j
 unfold sgK
 rw [if_neg (Nat.lt_irrefl _)]
theorem Qk {k i:Nat} (h:i≠k):sgK bm sd X Y I at_ sx d (k+1) i=sgK bm sd X Y I at_ sx d k i:=by
 funext j
 unfold sgK
 by_cases h1:i<k
 ·rw [if_pos h1,if_pos (by omega)]
 ·rw [if_neg h1,if_neg (by omega)]
theorem O6 {r:Nat→Slc} {e:TypeId} {NR:Nat} (h:RowsAre r e 4 (sgK bm sd X Y I at_ sx d NR) (B1 nk NR 0)):RowsAre r e 4 (sgF bm sd X Y I at_ sx d) (B1 nk NR 0):=λi=>by
 have q:=h i
 by_cases hi:i<NR
 ·have e:sgK bm sd X Y I at_ sx d NR i=sgF bm sd X Y I at_ sx d i:=by
   funext j
   unfold sgK sgF
   rw [if_pos hi]
  rwa [e] at q
 ·have e:B1 nk NR 0 i=0:=by unfold B1; rw [if_neg hi]; split <;> rfl
  rw [e,List.range_zero,List.map_nil] at q ⊢
  exact q
theorem O5 (k:Nat):(λj=>if j=at_ k then fws (Sc.subP (rgN bm sd k) (Sc.mulP (sgE bm sd X Y I at_ d k) (sx k))) else fws (rgF bm sd k j))=sgK bm sd X Y I at_ sx d (k+1) k:=by
 funext j
 unfold sgK sgS
 rw [if_pos (Nat.lt_succ_self k)]
 split <;> rfl
end
theorem AlR.tx {A:Option Addr} {n c M:Nat} {l:List UInt8} {v:Value} {Mq:AE} (h:AlR A n c M l v Mq) (hl:0<M→l.length=33) {w0:Base} (T0:AE) (h0:M=0→l.length=n∧n≤c∧c≤33∧∀ w L,St w0 w L→(∀ b∈T0,b∈L)→Sh.Src w A l) :
  ∃ (B:Option Addr) (k:Nat),v=.slice B (if M=0 then n else 33) k∧l.length=(if M=0 then n else 33)∧l.length≤k∧k≤33∧∀ w L,St w0 w L→(∀ b∈T0++Mq,b∈L)→Sh.Src w B l:=by
 rcases h with ⟨h1,rfl,rfl⟩ | ⟨h1,q,rfl,rfl⟩
 ·obtain ⟨a1,a2,a3,a4⟩:=h0 h1
  exact ⟨A,c,by rw [if_pos h1],by rw [if_pos h1,a1],by omega,a3,λw L hw hb=>a4 w L hw (λb h=>hb b (List.mem_append.2 (.inl h)))⟩
 ·have hne:¬ M=0:=by omega
  have hl:=hl h1
  exact ⟨_,33,by rw [if_neg hne],by rw [if_neg hne,hl],by omega,Nat.le_refl _,λw L hw hb=>Sh.Src.of_blk (hw.blk _ _ _ (hb _ (List.mem_append.2 (.inr (List.mem_singleton.2 rfl))))).2⟩
theorem Qj {bm sd:List UInt8} {X Y:Nat→Nat→Nat} {I:Nat→Nat→Bool} {at_ nk:Nat→Nat} {q7 i:Nat} {v:Value} {Mq:AE} {w0:Base} (h:AlR (some ⟨q7,0,none⟩) 33 33 (nk i - (at_ i+1)) (sgL bm sd X Y I at_ nk i) v Mq) :
  ∃ (B:Option Addr) (k:Nat),v=.slice B 33 k∧(sgL bm sd X Y I at_ nk i).length=33∧(sgL bm sd X Y I at_ nk i).length≤k∧k≤33∧∀ w L,St w0 w L→(∀ b∈[(q7,188,((sgX bm sd i).map bv).toArray)]++Mq,b∈L)→Sh.Src w B (sgL bm sd X Y I at_ nk i):=by
 have q:=AlR.tx (w0:=w0) h (λ_=>Ld i) [(q7,188,((sgX bm sd i).map bv).toArray)] (λh0=>by
  have e:sgL bm sd X Y I at_ nk i=sgX bm sd i:=by
   unfold sgL
   rw [h0]
   rfl
  rw [e]
  exact ⟨IR _,by decide,by decide,λv L hv hb=>Sh.Src.of_blk (hv.blk _ _ _ (hb _ (List.mem_singleton.2 rfl))).2⟩)
 rw [ite_self] at q
 exact q
theorem Qg {z d:List UInt8} {W:Option Addr} {N c:Nat} (hz:z.length=32) (hd:d.length=32):setAll (AK z W N c).toArray 0 (d.map bv).toArray.toList=(AK d W N c).toArray:=by
 have h:=Ch (d.map bv) 0 (AK z W N c).toArray (by rw [List.size_toArray,BJ hz,List.length_map,hd]; decide)
 rw [show (d.map bv).toArray.toList=d.map bv from rfl,h]
 refine congrArg List.toArray ?_
 simp only [List.take_zero,List.nil_append,List.length_map,hd]
 unfold AK
 rw [List.drop_left' (by rw [List.length_map,hz])]
def JA (d:List UInt8) (f:Nat→Nat→List Value) (nk:Nat→Nat) (NR:Nat) (v:Value) (M:AE):Prop:=∃ g r,v=Ar d (some ⟨g,0,none⟩) NR NR∧M=(g,55,Aj r NR)::BK r NR∧RowsAre r 46 4 f (B1 nk NR 0)
set_option maxHeartbeats 4000000 in
set_option maxRecDepth 100000 in
theorem MO (w:World) (R:Option Addr) (NR cR:Nat) (a:Nat→Option Addr) (nk ck:Nat→Nat) (X Y:Nat→Nat→Nat) (I:Nat→Nat→Bool) (hX:∀ i k,X i k<K4) (hY:∀ i k,Y i k<K4) (hNR:NR≤4611686018427387904) (hnk:∀ i,nk i≤4611686018427387904) (hlr:Lst w 1 R NR (λi=>[.slice (a i) (nk i) (ck i)])) (hlk:∀ i,i<NR→Lst w 9 (a i) (nk i) (λk=>pml (X i k) (Y i k) (I i k))) (hN32:NR≤32) (hn64:∀ i,i<NR→nk i≤64) (hn1:∀ i,i<NR→1≤nk i) (bm:List UInt8) (hbm:bm.length=32) (sd:List UInt8) (hsd:sd.length=32) (S:Option Addr) (cS:Nat) (at_:Nat→Nat) (sx:Nat→Nat) (hsx:∀ i,sx i<K4) (hls:Lst w 5 S NR (λi=>Ai ((at_ i:Nat):Int) (sx i))) (hat:∀ i,i<NR→at_ i<nk i) (ht:Sh.TabAt w 1):Calls Tryz.prog 45 #[Ax R NR cR bm,.agg (sd.map bv).toArray,.slice S NR cS] w (GetsN w (JA (sgD bm sd X Y I at_ nk NR) (sgF bm sd X Y I at_ sx (sgD bm sd X Y I at_ nk NR)) nk NR)):=by
 have hlr0:=hlr
 obtain ⟨gR,oR,hR⟩:=hlr
 obtain ⟨gQ,oQ,hQ⟩:=hls
 refine Sy.enter (args:=[Ax R NR cR bm,.agg (sd.map bv).toArray,.slice S NR cS]) Tryz.func45 rfl kL ?_
 refine sC ?_
 refine sM 83 (Af R NR cR bm).toArray (λg0=>?_)
 refine sM 23 (sd.map bv).toArray (λg1=>?_)
 refine sM 31 (AK (List.replicate 32 (0:UInt8)) none 0 0).toArray (λg2=>?_)
 refine sA ?_
 refine sS (Ax R NR cR bm) (Quiet.load 0 g0 0 33 83 83 (Af R NR cR bm).toArray _ _ rfl kR kR Tryz.underlying83 rfl kR _ (Az hbm) (A6 hbm))<|sS (.agg (sd.map bv).toArray) (Quiet.load 1 g1 0 32 23 23 (sd.map bv).toArray _ _ rfl kR kR Tryz.underlying23 rfl kR _ (A2 sd hsd) (BF sd hsd)) ?_
 refine Sy.callN kR 102 #[Ax R NR cR bm,.agg (sd.map bv).toArray] kF (EI 55 46 4 (fkF bm sd) (B1 nk NR 0) NR) (λw hw=>K9 w R NR cR a nk ck X Y I hX hY hNR hnk (hlr0.below hw.below) (λi hi=>(hlk i hi).below hw.below) hN32 hn64 bm hbm sd hsd (ht.below hw.below ht.lt)) (λvq Mq hR0=>?_)
 obtain ⟨gF,r0,rfl,rfl,hr0⟩:=hR0
 refine Sy.permS (M:=[(g0,83,(Af R NR cR bm).toArray),(g1,23,(sd.map bv).toArray),(g2,31,(AK (List.replicate 32 (0:UInt8)) none 0 0).toArray),(gF,55,(Aj r0 NR))]++(BK r0 NR++(nilS.bl++[]))) (by show List.Perm _ ([(g0,83,(Af R NR cR bm).toArray),(g1,23,(sd.map bv).toArray),(g2,31,(AK (List.replicate 32 (0:UInt8)) none 0 0).toArray),(gF,55,(Aj r0 NR))]++(BK r0 NR++[])); rw [List.append_nil]; exact List.Perm.refl _) ?_
 refine sP (Ar (List.replicate 32 (0:UInt8)) (some ⟨gF,0,none⟩) NR NR) ?_
 refine sM 31 (AK (List.replicate 32 (0:UInt8)) none 0 0).toArray (λg3=>?_)
 refine Sy.movT ?_
 refine sW 4 g3 31 (AK (List.replicate 32 (0:UInt8)) none 0 0).toArray (AK (List.replicate 32 (0:UInt8)) (some ⟨gF,0,none⟩) NR NR).toArray (Writes.row 31 (AK (List.replicate 32 (0:UInt8)) (some ⟨gF,0,none⟩) NR NR) 33 _ _ rfl kR kR kR (BJ List.length_replicate) (by rw [List.size_toArray,BJ List.length_replicate]) E4) ?_
 refine Sy.setT ?_
 refine sA ?_
 refine sP (.slice none 0 0) ?_
 refine sG<|Sy.seq<|sC ?_
 refine sP (.slice S NR cS)<|sP (.int .i64 ((NR:Nat):Int))<|sP (.int .i64 0) ?_
 refine sG<|Sy.block ?_
 refine Sy.loopT (Y:=Slc×AE×List Sh.Tx) NR (λk1 y1=>[(2,.slice S NR cS),(3,.pointer (some ⟨g0,0,none⟩)),(4,.pointer (some ⟨g1,0,none⟩)),(6,.pointer (some ⟨g2,0,none⟩)),(7,.pointer (some ⟨g3,0,none⟩)),(8,y1.1.v),(20,.slice S NR cS),(21,.int .i64 ((NR:Nat):Int)),(22,.int .i64 ((k1:Nat):Int))]) (λk1 y1=>[(g0,83,(Af R NR cR bm).toArray),(g1,23,(sd.map bv).toArray),(g2,31,(AK (List.replicate 32 (0:UInt8)) none 0 0).toArray),(gF,55,(Aj r0 NR)),(g3,31,(AK (List.replicate 32 (0:UInt8)) (some ⟨gF,0,none⟩) NR NR).toArray)]++(BK r0 NR++(y1.1.bl++y1.2.1))) (λk1 y1=>TxsIs (Base.of w) 24 y1.1 y1.2.1 y1.2.2∧Sh.cat y1.2.2=ET bm sd X Y I at_ nk k1∧y1.2.2.length=k1) (nilS,[],[]) ⟨TxsIs.nil _ _,rfl,rfl⟩ ac9 (λw hw=>hw) (λk1 y1 hk1 hh1=>?_)
 refine sC ?_
 obtain ⟨b1,hb1⟩:∃ z:Bool,z=decide (k1<NR):=⟨_,rfl⟩
 refine sS (.bool b1) (Quiet.pure (AC .lss _ _ _ .i64 _ _ _ rfl rfl rfl (AY _ _ _ _ _ (by rw [hb1]; exact decide_eq_decide.2 (by omega))))) ?_
 refine sG<|Sy.seq ?_
 cases b1
 ·have lb1:¬ (k1<NR):=of_decide_eq_false hb1.symm
  refine sU<|Sy.exit<|Sy.then_exit<|Sy.then_exit ?_
  obtain rfl:NR=k1:=by omega
  refine Sy.in_exit<|sB ?_
  refine sS (Ax R NR cR bm) (Quiet.load 0 g0 0 33 83 83 (Af R NR cR bm).toArray _ _ rfl kR kR Tryz.underlying83 rfl kR _ (Az hbm) (A6 hbm))<|sP (y1.1.v) ?_
  obtain ⟨d0,hd0⟩:∃ l,l=sgD bm sd X Y I at_ nk NR:=⟨_,rfl⟩
  have hdl:d0.length=32:=by rw [hd0]; exact IU _
  refine sS (.agg (d0.map bv).toArray) (Quiet.callS 107 #[Ax R NR cR bm,y1.1.v] kF (λw hw=>by obtain ⟨Q,dd,hv,hc9,_,htx⟩:=hh1.1.texts; rw [hv,hd0]; have hel:=GJ (bm:=bm) (sd:=sd) (X:=X) (Y:=Y) (I:=I) (at_:=at_) (nk:=nk) NR; have q:=Gp w R NR cR bm hbm Q _ dd y1.2.2 (htx hw (λb hb=>List.mem_append.2 (.inr (List.mem_append.2 (.inr (List.mem_append.2 (.inl hb)))))) (λb hb=>List.mem_append.2 (.inr (List.mem_append.2 (.inr (List.mem_append.2 (.inr hb))))))) (hh1.1.ok w _ hw (λb hb=>List.mem_append.2 (.inr (List.mem_append.2 (.inr (List.mem_append.2 (.inr hb))))))) rfl hc9 (by omega) (by rw [hh1.2.1]; omega) (ht.below hw.below ht.lt); rw [hh1.2.1] at q; exact q))<|sP (.pointer (some ⟨g3,0,none⟩))<|sW 4 g3 31 (AK (List.replicate 32 (0:UInt8)) (some ⟨gF,0,none⟩) NR NR).toArray (AK d0 (some ⟨gF,0,none⟩) NR NR).toArray (Writes.store 0 23 (d0.map bv).toArray _ _ rfl kR kR (by rw [EZ d0 hdl]; kernel_rfl) (by rw [EZ d0 hdl,List.size_toArray,BJ List.length_replicate]; decide) (Iu _) (Qg List.length_replicate hdl)) ?_
  refine Sy.setT ?_
  refine sG<|Sy.seq<|sC ?_
  refine sP (.slice S NR cS)<|sP (.int .i64 ((NR:Nat):Int))<|sP (.int .i64 0) ?_
  refine sG<|Sy.block ?_
  refine Sy.loopT (Y:=Nat→Slc) NR (λk1 y1=>[(3,.pointer (some ⟨g0,0,none⟩)),(4,.pointer (some ⟨g1,0,none⟩)),(6,.pointer (some ⟨g2,0,none⟩)),(7,.pointer (some ⟨g3,0,none⟩)),(60,.slice S NR cS),(61,.int .i64 ((NR:Nat):Int)),(62,.int .i64 ((k1:Nat):Int))]) (λk1 y1=>[(g0,83,(Af R NR cR bm).toArray),(g1,23,(sd.map bv).toArray),(g2,31,(AK (List.replicate 32 (0:UInt8)) none 0 0).toArray),(gF,55,(Aj y1 NR)),(g3,31,(AK d0 (some ⟨gF,0,none⟩) NR NR).toArray)]++(BK y1 NR++[])) (λk1 y1=>RowsAre y1 46 4 (sgK bm sd X Y I at_ sx d0 k1) (B1 nk NR 0)) r0 (by rw [NO]; exact hr0) ac7 (λw hw=>(hw.less ((List.Sublist.refl _).append ((List.Sublist.refl _).append (List.nil_sublist _))))) (λk1 y1 hk1 hh1=>?_)
  refine sC ?_
  obtain ⟨b2,hb2⟩:∃ z:Bool,z=decide (k1<NR):=⟨_,rfl⟩
  refine sS (.bool b2) (Quiet.pure (AC .lss _ _ _ .i64 _ _ _ rfl rfl rfl (AY _ _ _ _ _ (by rw [hb2]; exact decide_eq_decide.2 (by omega))))) ?_
  refine sG<|Sy.seq ?_
  cases b2
  ·have lb2:¬ (k1<NR):=of_decide_eq_false hb2.symm
   refine sU<|Sy.exit<|Sy.then_exit<|Sy.then_exit ?_
   obtain rfl:NR=k1:=by omega
   refine Sy.in_exit<|sB ?_
   refine sS (Ar d0 (some ⟨gF,0,none⟩) NR NR) (Quiet.load 4 g3 0 33 31 31 (AK d0 (some ⟨gF,0,none⟩) NR NR).toArray _ _ rfl kR kR Tryz.underlying31 rfl kR _ (CG hdl) (DQ hdl))<|sW 2 g2 31 (AK (List.replicate 32 (0:UInt8)) none 0 0).toArray (AK d0 (some ⟨gF,0,none⟩) NR NR).toArray (Writes.row 31 (AK d0 (some ⟨gF,0,none⟩) NR NR) 33 _ _ rfl kR kR kR (BJ hdl) (by rw [List.size_toArray,BJ List.length_replicate]) E4) ?_
   refine Sy.setT ?_
   refine sG<|Sy.ret ?_
   exact JV ((gF,55,Aj y1 NR)::BK y1 NR) rfl (v:=Ar d0 (some ⟨gF,0,none⟩) NR NR) (.inl (Res.cell (ty':=31) g2 2 (AK d0 (some ⟨gF,0,none⟩) NR NR).toArray _ kR kR Tryz.underlying31 rfl (by rw [List.size_toArray,BJ hdl]; kernel_rfl) rfl)) (λw hw=>by simpa using St.pick (pre:=[(g0,83,(Af R NR cR bm).toArray),(g1,23,(sd.map bv).toArray),(g2,31,(AK d0 (some ⟨gF,0,none⟩) NR NR).toArray),(gF,55,(Aj y1 NR)),(g3,31,(AK d0 (some ⟨gF,0,none⟩) NR NR).toArray)]) (M:=[(gF,55,Aj y1 NR)]) [3] (by decide) kR hw) ⟨gF,y1,by rw [hd0],rfl,by rw [← hd0]; exact O6 hh1⟩
  ·have lb2:k1<NR:=of_decide_eq_true hb2.symm
   have hnk1:=hn64 k1 lb2
   have hat1:=hat k1 lb2
   obtain ⟨gk,ck2,sp,hkv,hkb,hk1s,hk2s,hk3s⟩:=(show (y1 k1).Is _ _ _ from hh1 k1).open (by rw [DK lb2]; omega)
   rw [DK lb2] at hkv hkb hk1s hk2s
   rw [Ql] at hkb
   obtain ⟨fR,hfR⟩:∃ f:Nat→List Value,f=λj=>fws (rgF bm sd k1 j):=⟨_,rfl⟩
   rw [← hfR] at hkb
   have hf4:∀ j,(fR j).length=4:=λj=>by rw [hfR]; rfl
   refine Sy.permC (Sy.out1 y1 lb2 hkb) ?_
   refine sT<|Sy.skip<|Sy.then_<|Sy.seq<|Sy.block<|sC ?_
   refine sP (.int .i64 ((k1:Nat):Int))<|sS (.pointer (some ⟨gQ,oQ+k1*5,none⟩)) (Quiet.pure (AJ 26 _ _ _ S gQ oQ NR cS k1 5 .i64 (hQ (by omega)).1 rfl rfl rfl Tryz.underlying26 kF (by omega)))<|sS (.agg (Ai (((at_ k1):Nat):Int) (sx k1)).toArray) (Quiet.there gQ (oQ+k1*5) 5 48 (Ai ((at_ k1:Nat):Int) (sx k1)) _ _ rfl kR (hQ (by omega)).2.1 ((hQ (by omega)).2.2 k1 (by omega)) Tryz.underlying48 rfl kR rfl _ rfl) ?_
   refine sM 48 (Ai ((0:Nat):Int) 0).toArray (λg4=>?_)
   refine Sy.movT ?_
   refine sP (.int .i64 ((k1:Nat):Int))<|sW 6 g4 48 (Ai ((0:Nat):Int) 0).toArray (Ai (((at_ k1):Nat):Int) (sx k1)).toArray (Writes.row 48 (Ai (((at_ k1):Nat):Int) (sx k1)) 5 _ _ rfl kR kR kR rfl kR (λu hu=>by rcases List.mem_cons.1 hu with rfl | hu; exact rfl; exact Dc _ u hu)) ?_
   refine Sy.setT ?_
   refine sH (λj=>false) ?_
   refine sD 0 rfl (Ax R NR cR bm) (Quiet.load 0 g0 0 33 83 83 (Af R NR cR bm).toArray _ _ rfl kR kR Tryz.underlying83 rfl kR _ (Az hbm) (A6 hbm))<|sZ 1 rfl (.pointer (some ⟨g3,0,none⟩))<|sZ 2 rfl (.slice (some ⟨g3,0,none⟩) 32 32)<|sZ 3 rfl (.pointer (some ⟨g3,32,none⟩))<|sD 4 rfl (.slice (some ⟨gF,0,none⟩) NR NR) (Quiet.cell 4 g3 32 31 29 (AK d0 (some ⟨gF,0,none⟩) NR NR).toArray _ _ rfl kR kR Tryz.underlying29 rfl _ (Cb hdl))<|sZ 5 rfl (.int .i64 ((k1:Nat):Int))<|sD 6 rfl (.pointer (some ⟨gF,0+k1*1,none⟩)) (Quiet.pure (Bf 29 _ _ _ gF 0 NR NR k1 1 .i64 rfl rfl rfl Tryz.underlying29 kF (by omega)))<|sD 7 rfl (.slice (some ⟨gk,0,none⟩) (nk k1) ck2) (Quiet.cell 3 gF (0+k1*1) 55 55 (Aj y1 NR) _ _ rfl kR kR Tryz.underlying55 rfl _ ((Ci (by omega) rfl).trans (congrArg some hkv))) ?_
   refine sZ 8 rfl (.int .i64 ((k1:Nat):Int))<|sZ 9 rfl (.pointer (some ⟨g4,0,none⟩))<|sD 10 rfl (.int .i64 (((at_ k1):Nat):Int)) (qC 6 g4 0 48 3 (Ai (((at_ k1):Nat):Int) (sx k1)).toArray rfl Tryz.underlying3) ?_
   refine Sy.callND 11 rfl kR kR 106 #[Ax R NR cR bm,.slice (some ⟨g3,0,none⟩) 32 32,.slice (some ⟨gk,0,none⟩) (nk k1) ck2,.int .i64 ((k1:Nat):Int),.int .i64 0,.int .i64 (((at_ k1):Nat):Int)] kF (AlR (some ⟨g3,0,none⟩) 32 32 (at_ k1) (alX (rgF bm sd k1) bm k1 0 (X k1) (Y k1) (I k1) d0 (at_ k1))) (λw hw=>by have q:=G2 w R NR cR a nk ck X Y I hX hY hNR hnk (hlr0.below hw.below) (λi hi=>(hlk i hi).below hw.below) bm hbm (some ⟨g3,0,none⟩) d0 32 32 hdl (by decide) (by decide) (by decide) (KU (hw.get (i:=4) rfl)) (some ⟨gk,0,none⟩) (nk k1) ck2 (rgF bm sd k1) (λ_=>CT _ _ _ _) (by rw [← hfR]; exact Lf hf4 hw (List.mem_append.2 (.inl (List.mem_of_getElem? (i:=5) rfl)))) k1 0 (at_ k1) (by omega) (by omega) (by omega) (by omega) (by omega) (ht.below hw.below ht.lt); rw [Nat.zero_add] at q; exact q) (λvq Mq hR0=>?_)
   obtain ⟨xA,xk,hxv,hxl,hxk,hx33,hxs⟩:=AlR.tx (w0:=Base.of w) hR0 (λh=>F6 h) [(g3,31,(AK d0 (some ⟨gF,0,none⟩) NR NR).toArray)] (λh=>by rw [h]; exact ⟨hdl,by decide,by decide,λv L hv hb=>KU (hv.blk _ _ _ (hb _ (List.mem_singleton.2 rfl))).2⟩)
   obtain ⟨xn,hxn⟩:∃ k,k=(if at_ k1=0 then 32 else 33):=⟨_,rfl⟩
   rw [← hxn] at hxl hxv
   subst hxv
   refine Sy.permD Sy.end_perm ?_
   refine sZ 12 rfl (.slice xA xn xk) ?_
   refine sE ?_
   refine sB ?_
   refine sS (Ax R NR cR bm) (Quiet.load 0 g0 0 33 83 83 (Af R NR cR bm).toArray _ _ rfl kR kR Tryz.underlying83 rfl kR _ (Az hbm) (A6 hbm))<|sP (.slice xA xn xk)<|sP (.int .i64 ((k1:Nat):Int))<|sP (.pointer (some ⟨g4,0,none⟩))<|sS (.int .i64 (((at_ k1):Nat):Int)) (qC 6 g4 0 48 3 (Ai (((at_ k1):Nat):Int) (sx k1)).toArray rfl Tryz.underlying3) ?_
   obtain ⟨ek,hek⟩:∃ k,k=sgE bm sd X Y I at_ d0 k1:=⟨_,rfl⟩
   refine sS (fv ek) (Quiet.callS 108 #[Ax R NR cR bm,.slice xA xn xk,.int .i64 ((k1:Nat):Int),.int .i64 (((at_ k1):Nat):Int)] kF (λw hw=>by rw [hek]; exact ED w R NR cR bm hbm xA _ xn xk hxl (by omega) (by omega) (by omega) (hxs w _ hw (λb hb=>(List.mem_append.1 hb).elim (λh=>List.mem_append.2 (.inl (by rw [List.mem_singleton.1 h]; exact List.mem_of_getElem? (i:=4) rfl))) (λh=>List.mem_append.2 (.inr (List.mem_append.2 (.inr (List.mem_append.2 (.inr h)))))))) k1 (at_ k1) (by omega) (by omega) (ht.below hw.below ht.lt))) ?_
   refine sM 46 (fcs 0) (λg5=>?_)
   refine Sy.movT ?_
   refine sW 7 g5 46 (fcs 0) (fcs ek) (wS 0 46 (fcs ek) rfl) ?_
   refine Sy.setT ?_
   refine sG ?_
   refine Sy.regionD (λj=>j == 17) kR ?_
   refine sZ 0 rfl (.pointer (some ⟨g3,32,none⟩))<|sD 1 rfl (.slice (some ⟨gF,0,none⟩) NR NR) (Quiet.cell 4 g3 32 31 29 (AK d0 (some ⟨gF,0,none⟩) NR NR).toArray _ _ rfl kR kR Tryz.underlying29 rfl _ (Cb hdl))<|sZ 2 rfl (.int .i64 ((k1:Nat):Int))<|sD 3 rfl (.pointer (some ⟨gF,0+k1*1,none⟩)) (Quiet.pure (Bf 29 _ _ _ gF 0 NR NR k1 1 .i64 rfl rfl rfl Tryz.underlying29 kF (by omega)))<|sD 4 rfl (.slice (some ⟨gk,0,none⟩) (nk k1) ck2) (Quiet.cell 3 gF (0+k1*1) 55 55 (Aj y1 NR) _ _ rfl kR kR Tryz.underlying55 rfl _ ((Ci (by omega) rfl).trans (congrArg some hkv)))<|sZ 5 rfl (.pointer (some ⟨g4,0,none⟩))<|sD 6 rfl (.int .i64 (((at_ k1):Nat):Int)) (qC 6 g4 0 48 3 (Ai (((at_ k1):Nat):Int) (sx k1)).toArray rfl Tryz.underlying3)<|sD 7 rfl (Ax R NR cR bm) (Quiet.load 0 g0 0 33 83 83 (Af R NR cR bm).toArray _ _ rfl kR kR Tryz.underlying83 rfl kR _ (Az hbm) (A6 hbm)) ?_
   refine sD 8 rfl (.agg (sd.map bv).toArray) (Quiet.load 1 g1 0 32 23 23 (sd.map bv).toArray _ _ rfl kR kR Tryz.underlying23 rfl kR _ (A2 sd hsd) (BF sd hsd))<|sZ 9 rfl (.int .i64 ((k1:Nat):Int)) ?_
   obtain ⟨kn,hkn⟩:∃ k,k=rgN bm sd k1:=⟨_,rfl⟩
   refine sD 10 rfl (fv kn) (Quiet.callS 104 #[Ax R NR cR bm,.agg (sd.map bv).toArray,.int .i64 ((k1:Nat):Int)] kF (λw hw=>by rw [hkn]; exact EW w R NR cR bm hbm sd hsd k1 (by omega) (ht.below hw.below ht.lt)))<|sD 11 rfl (fv ek) (qL 7 g5 0 4 46 46 (fcs ek) rfl Tryz.underlying46)<|sZ 12 rfl (.pointer (some ⟨g4,1,none⟩))<|sD 13 rfl (fv (sx k1)) (qL 6 g4 1 4 48 46 (Ai (((at_ k1):Nat):Int) (sx k1)).toArray rfl Tryz.underlying46) ?_
   obtain ⟨km,hkm⟩:∃ k,k=Sc.mulP ek (sx k1):=⟨_,rfl⟩
   refine sD 14 rfl (fv km) (qF 110 #[fv ek,fv (sx k1)] (λw=>by rw [hkm]; exact Sc.mulF_any w _ _ (by rw [hek]; exact EV _ _ _ _) (hsx _))) ?_
   obtain ⟨ks,hks⟩:∃ k,k=Sc.subP kn km:=⟨_,rfl⟩
   refine sD 15 rfl (fv ks) (qF 109 #[fv kn,fv km] (λw=>by rw [hks]; exact Sc.subF_any w _ _ (by rw [hkn]; exact Ib _ _ _) (by rw [hkm]; exact Sc.mod_lt _)))<|sD 16 rfl (.pointer (some ⟨gk,0+(at_ k1)*4,none⟩)) (Quiet.pure (Bf 55 _ _ _ gk 0 (nk k1) ck2 (at_ k1) 4 .i64 rfl rfl rfl Tryz.underlying55 kF (by omega)))<|sX 17 rfl 5 gk 46 (AV fR (nk k1)++sp).toArray (AV (λj=>if j=(at_ k1) then fws ks else fR j) (nk k1)++sp).toArray (Writes.store (0+(at_ k1)*4) 46 (fcs ks) _ _ rfl kR kR kR (FI (k:=(at_ k1)) hf4 (by omega) rfl) kR (Mo (k:=(at_ k1)) (v:=fws ks) hf4 rfl (by omega) rfl)) ?_
   refine Sy.setTD ?_
   refine sE ?_
   refine Sy.in_<|Sy.then_<|Sy.region ?_
   refine sS (.int .i64 ((k1+1:Nat):Int)) (Quiet.pure (AC .add _ _ _ .i64 _ _ _ rfl rfl rfl (AO _ _ _ _ _ ((AH (by omega) (by omega)).trans (by omega)))))<|sP (.int .i64 ((k1+1:Nat):Int)) ?_
   refine Sy.nil ?_
   exact Sy.againT (Cz y1 k1 ⟨.slice (some ⟨gk,0,none⟩) (nk k1) ck2,[(gk,46,(AV (λj=>if j=(at_ k1) then fws ks else fR j) (nk k1)++sp).toArray)]⟩) (by omega) (hh1.upd (by rw [DK (by omega), ← O5, ← hkn, ← hek, ← hkm, ← hks,hfR]; exact Slc.Is.close (λk=>by split <;> rfl) (λk=>by split <;> exact Dc _) hk1s hk2s hk3s) (λi hi=>Qk hi)) ac7 (λw hw=>by rw [KX (by exact hkv.symm)]; exact St.back1 (by omega) (St.pick (pre:=[(g0,83,(Af R NR cR bm).toArray),(g1,23,(sd.map bv).toArray),(g2,31,(AK (List.replicate 32 (0:UInt8)) none 0 0).toArray),(gF,55,(Aj y1 NR)),(g3,31,(AK d0 (some ⟨gF,0,none⟩) NR NR).toArray),(gk,46,(AV (λj=>if j=(at_ k1) then fws ks else fR j) (nk k1)++sp).toArray),(g4,48,(Ai (((at_ k1):Nat):Int) (sx k1)).toArray),(g5,46,(fcs ek))]) (M:=[(g0,83,(Af R NR cR bm).toArray),(g1,23,(sd.map bv).toArray),(g2,31,(AK (List.replicate 32 (0:UInt8)) none 0 0).toArray),(gF,55,(Aj y1 NR)),(g3,31,(AK d0 (some ⟨gF,0,none⟩) NR NR).toArray)]++[(gk,46,(AV (λj=>if j=(at_ k1) then fws ks else fR j) (nk k1)++sp).toArray)]) [0,1,2,3,4,5] (by decide) kR hw))
 ·have lb1:k1<NR:=of_decide_eq_true hb1.symm
  have hnk1:=hn64 k1 lb1
  have hat1:=hat k1 lb1
  obtain ⟨wA,wc,hwv,_,_,hwl⟩:=hr0.lst (DK lb1) lb1
  refine sT<|Sy.skip<|Sy.then_<|Sy.seq<|Sy.block<|sC ?_
  refine sP (.int .i64 ((k1:Nat):Int))<|sS (.pointer (some ⟨gQ,oQ+k1*5,none⟩)) (Quiet.pure (AJ 26 _ _ _ S gQ oQ NR cS k1 5 .i64 (hQ (by omega)).1 rfl rfl rfl Tryz.underlying26 kF (by omega)))<|sS (.agg (Ai (((at_ k1):Nat):Int) (sx k1)).toArray) (Quiet.there gQ (oQ+k1*5) 5 48 (Ai ((at_ k1:Nat):Int) (sx k1)) _ _ rfl kR (hQ (by omega)).2.1 ((hQ (by omega)).2.2 k1 (by omega)) Tryz.underlying48 rfl kR rfl _ rfl) ?_
  refine sM 48 (Ai ((0:Nat):Int) 0).toArray (λg6=>?_)
  refine Sy.movT ?_
  refine sP (.int .i64 ((k1:Nat):Int))<|sW 5 g6 48 (Ai ((0:Nat):Int) 0).toArray (Ai (((at_ k1):Nat):Int) (sx k1)).toArray (Writes.row 48 (Ai (((at_ k1):Nat):Int) (sx k1)) 5 _ _ rfl kR kR kR rfl kR (λu hu=>by rcases List.mem_cons.1 hu with rfl | hu; exact rfl; exact Dc _ u hu)) ?_
  refine Sy.setT ?_
  refine sA ?_
  refine sS (Ax R NR cR bm) (Quiet.load 0 g0 0 33 83 83 (Af R NR cR bm).toArray _ _ rfl kR kR Tryz.underlying83 rfl kR _ (Az hbm) (A6 hbm))<|sS (.agg (sd.map bv).toArray) (Quiet.load 1 g1 0 32 23 23 (sd.map bv).toArray _ _ rfl kR kR Tryz.underlying23 rfl kR _ (A2 sd hsd) (BF sd hsd))<|sP (.int .i64 ((k1:Nat):Int))<|sS (fv (rgN bm sd k1)) (Quiet.callS 104 #[Ax R NR cR bm,.agg (sd.map bv).toArray,.int .i64 ((k1:Nat):Int)] kF (λw hw=>EW w R NR cR bm hbm sd hsd k1 (by omega) (ht.below hw.below ht.lt)))<|sS (pv gx.val gy.val false) (qF 105 #[] (LK))<|sS (pv (pX (evP (rgN bm sd k1))) (pY (evP (rgN bm sd k1))) (pI (evP (rgN bm sd k1)))) (qF 103 #[fv (rgN bm sd k1),pv gx.val gy.val false] (λw=>Lq (Ib _ _ _) (lt4 _) (lt4 _) (show dec gx.val gy.val false=bP from Er gx gy bP_on) rfl w)) ?_
  refine Sy.callN kR 100 #[pv (pX (evP (rgN bm sd k1))) (pY (evP (rgN bm sd k1))) (pI (evP (rgN bm sd k1)))] kF ((D3 (evP (rgN bm sd k1)))) (λw hw=>by have q:=Gt w (pX (evP (rgN bm sd k1))) (pY (evP (rgN bm sd k1))) (pI (evP (rgN bm sd k1))) (Hz _) (Hy _); rwa [CF (K_ _)] at q) (λvq Mq hR0=>?_)
  obtain ⟨q7,rfl,rfl⟩:=hR0
  refine Sy.movT ?_
  refine sP (.slice (some ⟨q7,0,none⟩) 33 33) ?_
  refine sG ?_
  refine Sy.regionD (λj=>j == 20) kR ?_
  refine sZ 0 rfl (y1.1.v) ?_
  refine Sy.stepDB 1 [18,19,20,21] rfl kR (λ_ _ _ _ h=>h) kR (Ax R NR cR bm) (Quiet.load 0 g0 0 33 83 83 (Af R NR cR bm).toArray _ _ rfl kR kR Tryz.underlying83 rfl kR _ (Az hbm) (A6 hbm)) ?_
  refine Sy.stepDB 2 [18,19,20,21] rfl kR (λ_ _ _ _ h=>h) kR (.slice (some ⟨q7,0,none⟩) 33 33) qP ?_
  refine Sy.stepDB 3 [4,6,7,18,19,20,21] rfl kR (λ_ _ _ _ h=>h) kR (.pointer (some ⟨g3,32,none⟩)) qP ?_
  refine Sy.stepDB 4 [6,7,18,19,20,21] rfl kR (λ_ _ _ _ h=>h) kR (.slice (some ⟨gF,0,none⟩) NR NR) (Quiet.cell 4 g3 32 31 29 (AK (List.replicate 32 (0:UInt8)) (some ⟨gF,0,none⟩) NR NR).toArray _ _ rfl kR kR Tryz.underlying29 rfl _ (Cb List.length_replicate)) ?_
  refine Sy.stepDB 5 [6,7,18,19,20,21] rfl kR (λ_ _ _ _ h=>h) kR (.int .i64 ((k1:Nat):Int)) qP ?_
  refine Sy.stepDB 6 [7,18,19,20,21] rfl kR (λ_ _ _ _ h=>h) kR (.pointer (some ⟨gF,0+k1*1,none⟩)) (Quiet.pure (Bf 29 _ _ _ gF 0 NR NR k1 1 .i64 rfl rfl rfl Tryz.underlying29 kF (by omega))) ?_
  refine Sy.stepDB 7 [18,19,20,21] rfl kR (λ_ _ _ _ h=>h) kR (.slice wA (nk k1) wc) (Quiet.cell 3 gF (0+k1*1) 55 55 (Aj r0 NR) _ _ rfl kR kR Tryz.underlying55 rfl _ ((Ci (by omega) rfl).trans (congrArg some hwv))) ?_
  refine Sy.stepDB 8 [18,19,20,21] rfl kR (λ_ _ _ _ h=>h) kR (.int .i64 ((k1:Nat):Int)) qP ?_
  refine Sy.stepDB 9 [10,11,18,19,20,21] rfl kR (λ_ _ _ _ h=>h) kR (.pointer (some ⟨g6,0,none⟩)) qP ?_
  refine Sy.stepDB 10 [11,18,19,20,21] rfl kR (λ_ _ _ _ h=>h) kR (.int .i64 (((at_ k1):Nat):Int)) (qC 5 g6 0 48 3 (Ai (((at_ k1):Nat):Int) (sx k1)).toArray rfl Tryz.underlying3) ?_
  refine Sy.stepDB 11 [18,19,20,21] rfl kR (λ_ _ _ _ h=>h) kR (.int .i64 (((at_ k1)+1:Nat):Int)) (Quiet.pure (AC .add _ _ _ .i64 _ _ _ rfl rfl rfl (AO _ _ _ _ _ ((AH (by omega) (by omega)).trans (by omega))))) ?_
  refine Sy.stepDB 12 [13,15,16,17,18,19,20,21] rfl kR (λ_ _ _ _ h=>h) kR (.pointer (some ⟨g3,32,none⟩)) qP ?_
  refine Sy.stepDB 13 [15,16,17,18,19,20,21] rfl kR (λ_ _ _ _ h=>h) kR (.slice (some ⟨gF,0,none⟩) NR NR) (Quiet.cell 4 g3 32 31 29 (AK (List.replicate 32 (0:UInt8)) (some ⟨gF,0,none⟩) NR NR).toArray _ _ rfl kR kR Tryz.underlying29 rfl _ (Cb List.length_replicate)) ?_
  refine Sy.stepDB 14 [15,16,17,18,19,20,21] rfl kR (λ_ _ _ _ h=>h) kR (.int .i64 ((k1:Nat):Int)) qP ?_
  refine Sy.stepDB 15 [16,17,18,19,20,21] rfl kR (λ_ _ _ _ h=>h) kR (.pointer (some ⟨gF,0+k1*1,none⟩)) (Quiet.pure (Bf 29 _ _ _ gF 0 NR NR k1 1 .i64 rfl rfl rfl Tryz.underlying29 kF (by omega))) ?_
  refine Sy.stepDB 16 [17,18,19,20,21] rfl kR (λ_ _ _ _ h=>h) kR (.slice wA (nk k1) wc) (Quiet.cell 3 gF (0+k1*1) 55 55 (Aj r0 NR) _ _ rfl kR kR Tryz.underlying55 rfl _ ((Ci (by omega) rfl).trans (congrArg some hwv))) ?_
  refine Sy.stepDB 17 [18,19,20,21] rfl kR (λ_ _ _ _ h=>h) kR (.int .i64 (((nk k1):Nat):Int)) qP ?_
  refine Sy.callND 18 rfl kR kR 106 #[Ax R NR cR bm,.slice (some ⟨q7,0,none⟩) 33 33,.slice wA (nk k1) wc,.int .i64 ((k1:Nat):Int),.int .i64 (((at_ k1)+1:Nat):Int),.int .i64 (((nk k1):Nat):Int)] kF (AlR (some ⟨q7,0,none⟩) 33 33 (nk k1 - (at_ k1+1)) (sgL bm sd X Y I at_ nk k1)) (λw hw=>by have q:=G2 w R NR cR a nk ck X Y I hX hY hNR hnk (hlr0.below hw.below) (λi hi=>(hlk i hi).below hw.below) bm hbm (some ⟨q7,0,none⟩) (sgX bm sd k1) 33 33 (IR _) (by decide) (by decide) (by decide) (Sh.Src.of_blk (hw.get (i:=6) rfl)) wA (nk k1) wc (rgF bm sd k1) (λ_=>CT _ _ _ _) (hwl hw (λb hb=>List.mem_append.2 (.inr (List.mem_append.2 (.inl hb))))) k1 (at_ k1+1) (nk k1 - (at_ k1+1)) (by omega) (by omega) (by omega) (by omega) (by omega) (ht.below hw.below ht.lt); rwa [show at_ k1+1+(nk k1 - (at_ k1+1))=nk k1 by omega] at q) (λvq Mq hR0=>?_)
  obtain ⟨xA,xk,rfl,hxl,hxk,hx33,hxs⟩:=Qj (w0:=Base.of w) hR0
  refine Sy.permD Sy.end_perm3 ?_
  refine Sy.makeD 19 rfl kR kR 24 #[.slice xA 33 xk] (λg=>.slice (some ⟨g,0,none⟩) 1 1) kF (λg7=>?_)
  refine Sy.movTD ?_
  refine Sy.soleD 20 rfl (λQ1 hq1=>?_)
  refine Sy.permS Sy.rot_perm ?_
  refine Sy.appendR kR 86 24 _ _ 1 24 Tryz.underlying86 Db rfl rfl rfl rfl (by decide) _ _ rfl hh1.1.row kR [.slice xA 33 xk] rfl (Gb _ _ _) 7 g7 24 kR kR (by rw [List.length_map,hh1.2.2]; omega) (by rw [List.length_map,hh1.2.2]; simp only [maxLen]; omega) (λr1 hr1=>?_)
  refine Sy.permS Sy.tor_perm ?_
  refine hq1 _ _ ?_
  refine Sy.anyOf [21] kR (by decide) (Sy.each1 ?_)
  refine Sy.oneQuiet rfl kR (r1.v) qP ?_
  refine sE ?_
  refine Sy.in_<|Sy.then_<|Sy.region ?_
  refine sS (.int .i64 ((k1+1:Nat):Int)) (Quiet.pure (AC .add _ _ _ .i64 _ _ _ rfl rfl rfl (AO _ _ _ _ _ ((AH (by omega) (by omega)).trans (by omega)))))<|sP (.int .i64 ((k1+1:Nat):Int)) ?_
  refine Sy.nil ?_
  exact Sy.againT ((r1,y1.2.1++(Mq++[(q7,188,((sgX bm sd k1).map bv).toArray)]),y1.2.2++[(⟨xA,sgL bm sd X Y I at_ nk k1,xk⟩:Sh.Tx)])) (by omega) (⟨hh1.1.add (⟨xA,sgL bm sd X Y I at_ nk k1,xk⟩:Sh.Tx) (Mq++[(q7,188,((sgX bm sd k1).map bv).toArray)]) hr1 (by unfold Sh.Tx.val; rw [show (sgL bm sd X Y I at_ nk k1).length=33 from hxl]) (λv L hv hb=>⟨hxs v L hv (λb h=>hb b ((List.mem_append.1 h).elim (λh=>List.mem_append.2 (.inr h)) (λh=>List.mem_append.2 (.inl h)))),hxk,by show xk≤9223372036854775807; omega⟩),by rw [Et,hh1.2.1]; rfl,by rw [List.length_append,hh1.2.2]; rfl⟩) ac9 (λw hw=>St.pick4 (pre:=[(g0,83,(Af R NR cR bm).toArray),(g1,23,(sd.map bv).toArray),(g2,31,(AK (List.replicate 32 (0:UInt8)) none 0 0).toArray),(gF,55,(Aj r0 NR)),(g3,31,(AK (List.replicate 32 (0:UInt8)) (some ⟨gF,0,none⟩) NR NR).toArray),(g6,48,(Ai (((at_ k1):Nat):Int) (sx k1)).toArray),(q7,188,((sgX bm sd k1).map bv).toArray),(g7,24,#[.slice xA 33 xk])]) (M:=[(g0,83,(Af R NR cR bm).toArray),(g1,23,(sd.map bv).toArray),(g2,31,(AK (List.replicate 32 (0:UInt8)) none 0 0).toArray),(gF,55,(Aj r0 NR)),(g3,31,(AK (List.replicate 32 (0:UInt8)) (some ⟨gF,0,none⟩) NR NR).toArray)]) (N:=[(q7,188,((sgX bm sd k1).map bv).toArray)]) [0,1,2,3,4,6] (by decide) kR hw)
end Cu
end
section
namespace Sy
open Go.RowKit Go.ChangeShapes Go.WideShapes Go.MapKept Go.ChangeMaps Go.WideElems
open Go.WideMaps (KeyLaw ArrKey)
section
variable {P:Program} {w0:Base} {n:Nat} {Q:Exit→Act→World→Prop} {F:AU} {L:AE} {ops:Array Oper} {o:Oper} {l:List Oper} {ex:Nat→Bool} {fuel:Nat} {listed:Array Bool}
end
section
variable {P:Program} {t k e:TypeId} {es:Array MapEntry} {clock:Nat} {ks:List Value}
open Classical in
end
end Sy
end
section
namespace Cu
open Go.RowKit Sy Go.ChangeShapes Go.WideShapes Go.MapKept Go.ChangeMaps Go.WideElems
open Go.WideMaps (KeyLaw ArrKey)
section
variable {m:List UInt8} {T:Int} {N M:Nat} {K:Nat→List UInt8} {Z:Nat→Int} {S:Nat→List UInt8}
end
end Cu
end
section
namespace Cu
open Go.RowKit Sy
set_option maxRecDepth 100000
set_option maxHeartbeats 4000000
end Cu
end
section
namespace Cu
open Go.RowKit Sy
set_option maxRecDepth 100000
set_option maxHeartbeats 4000000
end Cu
end
section
namespace Cu
open Go.RowKit Sy
section
variable {x:Nat→Nat} {m:List UInt8}
end
section
variable {l:List (List UInt8×List UInt8)} {m:List UInt8}
theorem Ez {w:World} {s n:Nat} {A:Option Addr} {e e':Nat→List Value} (h:Lst w s A n e) (he:∀ i,i<n→e i=e' i):Lst w s A n e':=by
 obtain ⟨g,o,h⟩:=h
 refine ⟨g,o,λhn=>?_⟩
 obtain ⟨h1,h2,h3⟩:=h hn
 exact ⟨h1,h2,λj hj=>by rw [← he j hj]; exact h3 j hj⟩
end
end Cu
end
section
namespace Cu
open Go.RowKit Sy
noncomputable def RD:TypeInfo:=(Tryz.prog.info? 3).getD default
theorem OA:Tryz.prog.info? 3=some RD:=by kernel_rfl
theorem Nz (z:Int):∀ u∈[Value.int .i64 z],u.oneCell'=true:=λu hu=>by rw [List.mem_singleton.1 hu]; rfl
def szR (n:Nat→Nat) (k:Nat):List (List Value):=(List.range k).map λi=>[.int .i64 ((n i:Nat):Int)]
theorem IM (n:Nat→Nat) (k:Nat):(szR n k).length=k:=by simp [szR]
theorem NH (n:Nat→Nat) (k:Nat):szR n (k+1)=szR n k++[[.int .i64 ((n k:Nat):Int)]]:=by
 unfold szR
 rw [List.range_succ,List.map_append]
 rfl
theorem Oz {n:Nat→Nat} {k i:Nat} (hi:i<k):(szR n k).getD i []=[.int .i64 ((n i:Nat):Int)]:=by
 unfold szR
 rw [List.getD_eq_getElem?_getD,List.getElem?_map,List.getElem?_range hi]
 rfl
def Bp (NR:Nat) (n:Nat→Nat) (X Y:Nat→Nat→Nat) (I:Nat→Nat→Bool):Bool:=szB NR n && !(List.range NR).any (Ed n X Y I)
set_option maxHeartbeats 4000000 in
set_option maxRecDepth 100000 in
theorem EU (w:World) (R:Option Addr) (NR cR:Nat) (a:Nat→Option Addr) (n c:Nat→Nat) (X Y:Nat→Nat→Nat) (I:Nat→Nat→Bool) (hX:∀ i k,X i k<K4) (hY:∀ i k,Y i k<K4) (hNR:NR≤4611686018427387904) (hn:∀ i,n i≤4611686018427387904) (hlr:Lst w 1 R NR (λi=>[.slice (a i) (n i) (c i)])) (hlk:∀ i,i<NR→Lst w 9 (a i) (n i) (λk=>pml (X i k) (Y i k) (I i k))) (hN9:NR≤17592186044416):Calls Tryz.prog 42 #[.slice R NR cR] w (Gets w (.bool (Bp NR n X Y I))):=by
 have hlr0:=hlr
 obtain ⟨gR,oR,hR⟩:=hlr
 refine Sy.enter (args:=[.slice R NR cR]) Tryz.func42 rfl kL ?_
 refine sC ?_
 refine sP (.bool false) ?_
 refine sA ?_
 refine sP (.slice none 0 0) ?_
 refine sG<|Sy.seq<|sC ?_
 refine sP (.slice R NR cR)<|sP (.int .i64 ((NR:Nat):Int))<|sP (.int .i64 0) ?_
 refine sG<|Sy.block ?_
 refine Sy.loopT (Y:=Slc) NR (λk1 y1=>[(0,.slice R NR cR),(3,y1.v),(6,.slice R NR cR),(7,.int .i64 ((NR:Nat):Int)),(8,.int .i64 ((k1:Nat):Int))]) (λk1 y1=>[]++(y1.bl++[])) (λk1 y1=>y1.Is 3 1 (szR n k1)) ⟨.slice none 0 0,[]⟩ (Slc.Is.nil _ _) ac5 (λw hw=>hw) (λk1 y1 hk1 hh1=>?_)
 refine sC ?_
 obtain ⟨b1,hb1⟩:∃ z:Bool,z=decide (k1<NR):=⟨_,rfl⟩
 refine sS (.bool b1) (Quiet.pure (AC .lss _ _ _ .i64 _ _ _ rfl rfl rfl (AY _ _ _ _ _ (by rw [hb1]; exact decide_eq_decide.2 (by omega))))) ?_
 refine sG<|Sy.seq ?_
 cases b1
 ·have lb1:¬ (k1<NR):=of_decide_eq_false hb1.symm
  refine sU<|Sy.exit<|Sy.then_exit<|Sy.then_exit ?_
  obtain rfl:NR=k1:=by omega
  refine Sy.in_exit<|sB ?_
  refine sP (y1.v) ?_
  obtain ⟨b2,hb2⟩:∃ z:Bool,z=szB NR n:=⟨_,rfl⟩
  refine sS (.bool b2) (qG 72 #[y1.v] (λw hw=>by obtain ⟨A,c2,hv,_,_,hl⟩:=hh1.out; rw [IM] at hv hl; rw [hv,hb2]; exact KK w A NR c2 n hNR (Ez (hl hw (λb hb=>List.mem_append.2 (.inr (List.mem_append.2 (.inl hb))))) (λi hi=>Oz hi))))<|sP (.bool b2) ?_
  cases b2
  ·refine sN<|sN<|sN ?_
   refine sP (.bool false)<|sP (.bool false) ?_
   refine sG<|Sy.ret ?_
   rw [show (.bool (Bp NR n X Y I):Value)=.bool false from by unfold Bp; rw [← hb2]; rfl]
   exact rV (.bool false) rfl
  ·refine sP (.slice R NR cR) ?_
   obtain ⟨b3,hb3⟩:∃ z:Bool,z=(List.range NR).any (Ed n X Y I):=⟨_,rfl⟩
   refine sS (.bool b3) (Quiet.callS 97 #[.slice R NR cR,.func (.func 98) #[] #[]] kF (λw hw=>by rw [hb3]; exact P9 w R NR cR a n c X Y I hX hY hNR hn (hlr0.below hw.below) (λi hi=>(hlk i hi).below hw.below))) ?_
   cases b3
   ·refine sP (.bool true)<|sP (.bool true)<|sP (.bool true) ?_
    refine sG<|Sy.ret ?_
    rw [show (.bool (Bp NR n X Y I):Value)=.bool true from by unfold Bp; rw [← hb2, ← hb3]; rfl]
    exact rV (.bool true) rfl
   ·refine sP (.bool false)<|sP (.bool false)<|sP (.bool false) ?_
    refine sG<|Sy.ret ?_
    rw [show (.bool (Bp NR n X Y I):Value)=.bool false from by unfold Bp; rw [← hb2, ← hb3]; rfl]
    exact rV (.bool false) rfl
 ·have lb1:k1<NR:=of_decide_eq_true hb1.symm
  refine sT<|Sy.skip<|Sy.then_<|Sy.seq<|Sy.block<|sC ?_
  refine sS (.pointer (some ⟨gR,oR+k1*1,none⟩)) (Quiet.pure (AJ 25 _ _ _ R gR oR NR cR k1 1 .i64 (hR (by omega)).1 rfl rfl rfl Tryz.underlying25 kF (by omega)))<|sS (.slice (a k1) (n k1) (c k1)) (Quiet.thereOne gR (oR+k1*1) 49 _ _ rfl kR (hR (by omega)).2.1 _ (AR ((hR (by omega)).2.2 k1 (by omega)) 0 rfl) Tryz.underlying49 rfl)<|sP (.slice (a k1) (n k1) (c k1)) ?_
  refine sG<|Sy.region ?_
  refine sP (y1.v)<|sP (.slice (a k1) (n k1) (c k1))<|sP (.int .i64 (((n k1):Nat):Int)) ?_
  refine Sy.make kR 3 #[.int .i64 (((n k1):Nat):Int)] (λg=>.slice (some ⟨g,0,none⟩) 1 1) kF (λg0=>?_)
  refine Sy.movT ?_
  refine Sy.appendR kR 60 3 _ _ 1 8 Tryz.underlying60 OA rfl rfl rfl rfl (by decide) _ _ rfl hh1 kR [.int .i64 (((n k1):Nat):Int)] rfl (Nz _) 0 g0 3 kR kR (by rw [IM]; omega) (by rw [IM]; simp only [maxLen]; omega) (λr1 hr1=>?_)
  refine sP (r1.v) ?_
  refine Sy.nil<|Sy.in_<|Sy.then_<|Sy.region ?_
  refine sS (.int .i64 ((k1+1:Nat):Int)) (Quiet.pure (AC .add _ _ _ .i64 _ _ _ rfl rfl rfl (AO _ _ _ _ _ ((AH (by omega) (by omega)).trans (by omega)))))<|sP (.int .i64 ((k1+1:Nat):Int)) ?_
  refine Sy.nil ?_
  exact Sy.againT r1 (by omega) (by rw [NH]; exact hr1) ac5 (λw hw=>hw.pick [] (by decide) kR)
end Cu
end
section
namespace Cu
open Go.RowKit Sy
set_option maxRecDepth 100000
set_option maxHeartbeats 4000000
theorem DC {NR:Nat} {nk:Nat→Nat} {X Y:Nat→Nat→Nat} {I:Nat→Nat→Bool} (h:true=Bp NR nk X Y I):NR≤32∧(∀ i,i<NR→nk i≤64)∧(∀ i,i<NR→1≤nk i)∧1≤NR:=by
 unfold Bp at h
 have q:=(Fn NR nk).1 (Bool.and_eq_true_iff.1 h.symm).1
 exact ⟨q.2.1,λi hi=>(q.2.2 i hi).2,λi hi=>(q.2.2 i hi).1,q.1⟩
theorem Ms {At:Nat→Int} {sx:Nat→Nat} {nk:Nat→Nat} {X Y:Nat→Nat→Nat} {I:Nat→Nat→Bool} {NS NR:Nat} (h:true=Di At sx nk X Y I NS NR):NS=NR∧∀ i,i<NR→At i=(((At i).toNat:Nat):Int)∧(At i).toNat<nk i∧Bq (sx i) (X i (At i).toNat) (Y i (At i).toNat) (I i (At i).toNat)=true:=by
 unfold Di at h
 obtain ⟨h1,h2⟩:=Bool.and_eq_true_iff.1 h.symm
 refine ⟨of_decide_eq_true h1,λi hi=>?_⟩
 have q:=List.all_eq_true.1 h2 i (List.mem_range.2 hi)
 unfold Fi at q
 rw [Bool.and_eq_true,Bool.and_eq_true,decide_eq_true_iff,decide_eq_true_iff] at q
 exact ⟨by omega,by omega,q.2.2⟩
def vfB (m:List UInt8) (NR:Nat) (nk:Nat→Nat) (X Y:Nat→Nat→Nat) (I:Nat→Nat→Bool) (s:Nat→Nat→Nat) (d:List UInt8) (NW:Nat) (sn:Nat→Nat):Bool:=Bp NR nk X Y I && chB s (rgM m NR nk X Y I) X Y I d NW NR sn nk
theorem ChR.tup {b:Bool} {f:Nat→Nat→List Value} {nk:Nat→Nat} {NR:Nat} {v:Value} {M:AE} (h:ChR b f nk NR v M):∃ u,v=.tuple #[u,.bool b]:=by
 rcases h with ⟨rfl,rfl,_⟩ | ⟨rfl,u,rfl,_⟩ <;> exact ⟨_,rfl⟩
def SM (br bf:Bool) (d:List UInt8) (f:Nat→Nat→List Value) (nk:Nat→Nat) (NR:Nat) (v:Value) (M:AE):Prop :=
 (br=false∧v=.tuple #[Ar (List.replicate 32 0) none 0 0,.int .i64 80]∧M=[])∨(br=true∧bf=false∧v=.tuple #[Ar (List.replicate 32 0) none 0 0,.int .i64 81]∧M=[])∨(br=true∧bf=true∧∃ u,v=.tuple #[u,.int .i64 0]∧JA d f nk NR u M)
theorem Ff (w:World) (A:Option Addr) (m:List UInt8) (n c:Nat) (hm:m.length=n) (hm9:n≤999000000) (hc:n≤c) (hc2:c≤9223372036854775807) (hs0:Sh.Src w A m) (R:Option Addr) (NR cR:Nat) (a:Nat→Option Addr) (nk ck:Nat→Nat) (X Y:Nat→Nat→Nat) (I:Nat→Nat→Bool) (hX:∀ i k,X i k<K4) (hY:∀ i k,Y i k<K4) (hNR:NR≤4611686018427387904) (hnk:∀ i,nk i≤4611686018427387904) (hlr:Lst w 1 R NR (λi=>[.slice (a i) (nk i) (ck i)])) (hlk:∀ i,i<NR→Lst w 9 (a i) (nk i) (λk=>pml (X i k) (Y i k) (I i k))) (hN9:NR≤17592186044416) (d:List UInt8) (hd:d.length=32) (W:Option Addr) (NW cW:Nat) (sa:Nat→Option Addr) (sn sc:Nat→Nat) (s:Nat→Nat→Nat) (hsc:∀ i k,s i k<K4) (hNW:NW≤4611686018427387904) (hsn9:∀ i,i<NW→sn i≤4611686018427387904) (hlw:Lst w 1 W NW (λi=>[.slice (sa i) (sn i) (sc i)])) (hls:∀ i,i<NW→Lst w 4 (sa i) (sn i) (λk=>fws (s i k))) (ht:Sh.TabAt w 1):Calls Tryz.prog 18 #[.slice A n c,.slice R NR cR,Ar d W NW cW] w (Gets w (.bool (vfB m NR nk X Y I s d NW sn))):=by
 have hlr0:=hlr
 obtain ⟨gR,oR,hR⟩:=hlr
 refine Sy.enter (args:=[.slice A n c,.slice R NR cR,Ar d W NW cW]) Tryz.func18 rfl kL ?_
 refine sC ?_
 refine sM 31 (AK d W NW cW).toArray (λg0=>?_)
 refine sP (.bool false) ?_
 refine sG<|Sy.seq<|sC ?_
 refine sP (.slice R NR cR) ?_
 obtain ⟨b1,hb1⟩:∃ z:Bool,z=Bp NR nk X Y I:=⟨_,rfl⟩
 refine sS (.bool b1) (qG 42 #[.slice R NR cR] (λw hw=>by rw [hb1]; exact EU w R NR cR a nk ck X Y I hX hY hNR hnk (hlr0.below hw.below) (λi hi=>(hlk i hi).below hw.below) hN9)) ?_
 cases b1
 ·refine sP (.bool true) ?_
  refine sG<|sT<|sC ?_
  refine sP (.bool false) ?_
  refine sG<|Sy.ret<|Sy.then_ret ?_
  rw [show (.bool (vfB m NR nk X Y I s d NW sn):Value)=.bool false from by unfold vfB; rw [← hb1]; rfl]
  exact rV (.bool false) rfl
 ·obtain ⟨hN32,hn64,hn1,hN1⟩:=DC hb1
  refine sP (.bool false) ?_
  refine sG<|sU<|Sy.skip ?_
  refine sR (λj=>false) ?_
  refine sZ 0 rfl (.slice A n c)<|sZ 1 rfl (.slice R NR cR) ?_
  obtain ⟨bM,hbM⟩:∃ l,l=rgM m NR nk X Y I:=⟨_,rfl⟩
  have hbl:bM.length=32:=by rw [hbM]; exact DW _ _ _ _ _ _
  refine sD 2 rfl (Ax R NR cR bM) (qG 44 #[.slice A n c,.slice R NR cR] (λw hw=>by rw [hbM]; exact Gz w R NR cR a nk ck X Y I hX hY hNR hnk (hlr0.below hw.below) (λi hi=>(hlk i hi).below hw.below) hN32 hn64 A m n c hm hm9 hc hc2 (hs0.below hw.below) (ht.below hw.below ht.lt)))<|sD 3 rfl (Ar d W NW cW) (Quiet.load 0 g0 0 33 31 31 (AK d W NW cW).toArray _ _ rfl kR kR Tryz.underlying31 rfl kR _ (CG hd) (DQ hd)) ?_
  obtain ⟨b2,hb2⟩:∃ z:Bool,z=chB s bM X Y I d NW NR sn nk:=⟨_,rfl⟩
  refine Sy.callND 4 rfl kR kR 54 #[Ax R NR cR bM,Ar d W NW cW] kF (ChR b2 (eF s bM X Y I d) nk NR) (λw hw=>by rw [hb2]; exact Dg w R NR cR a nk ck X Y I hX hY hNR hnk (hlr0.below hw.below) (λi hi=>(hlk i hi).below hw.below) hN32 hn64 hn1 bM hbl d hd W NW cW sa sn sc s hsc hNW hsn9 (hlw.below hw.below) (λi hi=>(hls i hi).below hw.below) (ht.below hw.below ht.lt)) (λvq Mq hR0=>?_)
  obtain ⟨u,rfl⟩:=hR0.tup
  refine sZ 5 rfl (.tuple #[u,.bool b2])<|sZ 6 rfl (u)<|sZ 7 rfl (.bool b2)<|sZ 8 rfl (u)<|sZ 9 rfl (.bool b2) ?_
  refine sE ?_
  refine sB ?_
  refine sP (.bool b2)<|sP (.bool b2) ?_
  refine sG<|Sy.ret ?_
  rw [show (.bool (vfB m NR nk X Y I s d NW sn):Value)=.bool b2 from by unfold vfB; rw [← hb1, ← hbM, ← hb2]; rfl]
  exact rV (.bool b2) rfl
theorem M' (w:World) (sd:List UInt8) (hsd:sd.length=32) (A:Option Addr) (m:List UInt8) (n c:Nat) (hm:m.length=n) (hm9:n≤999000000) (hc:n≤c) (hc2:c≤9223372036854775807) (hs0:Sh.Src w A m) (R:Option Addr) (NR cR:Nat) (a:Nat→Option Addr) (nk ck:Nat→Nat) (X Y:Nat→Nat→Nat) (I:Nat→Nat→Bool) (hX:∀ i k,X i k<K4) (hY:∀ i k,Y i k<K4) (hNR:NR≤4611686018427387904) (hnk:∀ i,nk i≤4611686018427387904) (hlr:Lst w 1 R NR (λi=>[.slice (a i) (nk i) (ck i)])) (hlk:∀ i,i<NR→Lst w 9 (a i) (nk i) (λk=>pml (X i k) (Y i k) (I i k))) (hN9:NR≤17592186044416) (S:Option Addr) (NS cS:Nat) (At:Nat→Int) (sx:Nat→Nat) (hsx:∀ i,sx i<K4) (hNS:NS≤4611686018427387904) (hls:Lst w 5 S NS (λi=>Ai (At i) (sx i))) (ht:Sh.TabAt w 1):Calls Tryz.prog 12 #[.agg (sd.map bv).toArray,.slice A n c,.slice R NR cR,.slice S NS cS] w (GetsN w (SM (Bp NR nk X Y I) (Di At sx nk X Y I NS NR) (sgD (rgM m NR nk X Y I) sd X Y I (λi=>(At i).toNat) nk NR) (sgF (rgM m NR nk X Y I) sd X Y I (λi=>(At i).toNat) sx (sgD (rgM m NR nk X Y I) sd X Y I (λi=>(At i).toNat) nk NR)) nk NR)):=by
 have hls0:=hls
 obtain ⟨gS,oS,hS⟩:=hls
 have hlr0:=hlr
 obtain ⟨gR,oR,hR⟩:=hlr
 refine Sy.enter (args:=[.agg (sd.map bv).toArray,.slice A n c,.slice R NR cR,.slice S NS cS]) Tryz.func12 rfl kL ?_
 refine sC ?_
 refine sM 23 (sd.map bv).toArray (λg0=>?_)
 refine sM 31 (AK (List.replicate 32 (0:UInt8)) none 0 0).toArray (λg1=>?_)
 refine sP (.int .i64 0) ?_
 refine sG<|Sy.seq<|sC ?_
 refine sP (.slice R NR cR) ?_
 obtain ⟨b1,hb1⟩:∃ z:Bool,z=Bp NR nk X Y I:=⟨_,rfl⟩
 refine sS (.bool b1) (qG 42 #[.slice R NR cR] (λw hw=>by rw [hb1]; exact EU w R NR cR a nk ck X Y I hX hY hNR hnk (hlr0.below hw.below) (λi hi=>(hlk i hi).below hw.below) hN9)) ?_
 cases b1
 ·refine sP (.bool true) ?_
  refine sG<|sT<|sC ?_
  refine sP (Ar (List.replicate 32 (0:UInt8)) none 0 0)<|sW 1 g1 31 (AK (List.replicate 32 (0:UInt8)) none 0 0).toArray (AK (List.replicate 32 (0:UInt8)) none 0 0).toArray (Writes.row 31 (AK (List.replicate 32 (0:UInt8)) none 0 0) 33 _ _ rfl kR kR kR (BJ List.length_replicate) (by rw [List.size_toArray,BJ List.length_replicate]) E4)<|sP (.int .i64 80) ?_
  refine sG<|Sy.ret<|Sy.then_ret ?_
  exact Bb [] rfl (v:=Ar (List.replicate 32 (0:UInt8)) none 0 0) (u:=.int .i64 80) (.inl (Res.cell (ty':=31) g1 1 (AK (List.replicate 32 (0:UInt8)) none 0 0).toArray _ kR kR Tryz.underlying31 rfl (by rw [List.size_toArray,BJ List.length_replicate]; kernel_rfl) rfl)) (.inl (show _=_ by kernel_rfl)) (λ_ hw=>hw.none) (.inl ⟨hb1.symm,rfl,rfl⟩)
 ·obtain ⟨hN32,hn64,hn1,hN1⟩:=DC hb1
  refine sP (.bool false) ?_
  refine sG<|sU<|Sy.skip<|Sy.then_<|Sy.seq<|sC ?_
  refine sP (.slice S NS cS)<|sP (.slice R NR cR) ?_
  obtain ⟨b2,hb2⟩:∃ z:Bool,z=Di At sx nk X Y I NS NR:=⟨_,rfl⟩
  refine sS (.bool b2) (qG 43 #[.slice S NS cS,.slice R NR cR] (λw hw=>by rw [hb2]; exact Pw w S NS cS At sx hsx hNS (hls0.below hw.below) R NR cR a nk ck X Y I hX hY hNR hnk (hlr0.below hw.below) (λi hi=>(hlk i hi).below hw.below))) ?_
  cases b2
  ·refine sP (.bool true) ?_
   refine sG<|sT<|sC ?_
   refine sP (Ar (List.replicate 32 (0:UInt8)) none 0 0)<|sW 1 g1 31 (AK (List.replicate 32 (0:UInt8)) none 0 0).toArray (AK (List.replicate 32 (0:UInt8)) none 0 0).toArray (Writes.row 31 (AK (List.replicate 32 (0:UInt8)) none 0 0) 33 _ _ rfl kR kR kR (BJ List.length_replicate) (by rw [List.size_toArray,BJ List.length_replicate]) E4)<|sP (.int .i64 81) ?_
   refine sG<|Sy.ret<|Sy.then_ret ?_
   exact Bb [] rfl (v:=Ar (List.replicate 32 (0:UInt8)) none 0 0) (u:=.int .i64 81) (.inl (Res.cell (ty':=31) g1 1 (AK (List.replicate 32 (0:UInt8)) none 0 0).toArray _ kR kR Tryz.underlying31 rfl (by rw [List.size_toArray,BJ List.length_replicate]; kernel_rfl) rfl)) (.inl (show _=_ by kernel_rfl)) (λ_ hw=>hw.none) (.inr (.inl ⟨hb1.symm,hb2.symm,rfl,rfl⟩))
  ·obtain ⟨hNE,hfp⟩:=Ms hb2
   obtain rfl:NR=NS:=hNE.symm
   refine sP (.bool false) ?_
   refine sG<|sU<|Sy.skip ?_
   refine sR (λj=>j == 6) ?_
   refine sZ 0 rfl (.slice A n c)<|sZ 1 rfl (.slice R NR cR) ?_
   obtain ⟨bM,hbM⟩:∃ l,l=rgM m NR nk X Y I:=⟨_,rfl⟩
   have hbl:bM.length=32:=by rw [hbM]; exact DW _ _ _ _ _ _
   refine sD 2 rfl (Ax R NR cR bM) (qG 44 #[.slice A n c,.slice R NR cR] (λw hw=>by rw [hbM]; exact Gz w R NR cR a nk ck X Y I hX hY hNR hnk (hlr0.below hw.below) (λi hi=>(hlk i hi).below hw.below) hN32 hn64 A m n c hm hm9 hc hc2 (hs0.below hw.below) (ht.below hw.below ht.lt)))<|sD 3 rfl (.agg (sd.map bv).toArray) (Quiet.load 0 g0 0 32 23 23 (sd.map bv).toArray _ _ rfl kR kR Tryz.underlying23 rfl kR _ (A2 sd hsd) (BF sd hsd))<|sZ 4 rfl (.slice S NR cS) ?_
   obtain ⟨d0,hd0⟩:∃ l,l=(sgD bM sd X Y I (λi=>(At i).toNat) nk NR):=⟨_,rfl⟩
   have hdl:d0.length=32:=by rw [hd0]; exact IU _
   refine Sy.callND 5 rfl kR kR 45 #[Ax R NR cR bM,.agg (sd.map bv).toArray,.slice S NR cS] kF (JA d0 (sgF bM sd X Y I (λi=>(At i).toNat) sx d0) nk NR) (λw hw=>by rw [hd0]; exact MO w R NR cR a nk ck X Y I hX hY hNR hnk (hlr0.below hw.below) (λi hi=>(hlk i hi).below hw.below) hN32 hn64 hn1 bM hbl sd hsd S cS (λi=>(At i).toNat) sx hsx (Ez (hls0.below hw.below) (λi hi=>by rw [← (hfp i hi).1])) (λi hi=>(hfp i hi).2.1) (ht.below hw.below ht.lt)) (λvq Mq hR0=>?_)
   obtain ⟨gF,r0,rfl,rfl,hr0⟩:=hR0
   refine Sy.permD (M:=[(g0,23,(sd.map bv).toArray),(g1,31,(AK (List.replicate 32 (0:UInt8)) none 0 0).toArray),(gF,55,(Aj r0 NR))]++(BK r0 NR++[])) (by rw [List.append_nil]; exact List.Perm.refl _) ?_
   refine sX 6 rfl 1 g1 31 (AK (List.replicate 32 (0:UInt8)) none 0 0).toArray (AK d0 (some ⟨gF,0,none⟩) NR NR).toArray (Writes.row 31 (AK d0 (some ⟨gF,0,none⟩) NR NR) 33 _ _ rfl kR kR kR (BJ hdl) (by rw [List.size_toArray,BJ List.length_replicate]) E4) ?_
   refine Sy.setTD ?_
   refine Sy.anyOf [7] kR (by decide) (Sy.each1 ?_)
   refine Sy.oneQuiet rfl kR (.int .i64 0) qP ?_
   refine sI ?_
   refine Sy.ret ?_
   exact Bb ((gF,55,Aj r0 NR)::BK r0 NR) rfl (v:=Ar d0 (some ⟨gF,0,none⟩) NR NR) (u:=.int .i64 0) (.inl (Res.cell (ty':=31) g1 1 (AK d0 (some ⟨gF,0,none⟩) NR NR).toArray _ kR kR Tryz.underlying31 rfl (by rw [List.size_toArray,BJ hdl]; kernel_rfl) rfl)) (.inl (show _=_ by kernel_rfl)) (λw hw=>by simpa using St.pick (pre:=[(g0,23,(sd.map bv).toArray),(g1,31,(AK d0 (some ⟨gF,0,none⟩) NR NR).toArray),(gF,55,(Aj r0 NR))]) (M:=[(gF,55,Aj r0 NR)]) [2] (by decide) kR hw) (.inr (.inr ⟨hb1.symm,hb2.symm,_,rfl,gF,r0,by rw [hd0,hbM],rfl,by rw [hd0,hbM] at hr0; exact hr0⟩))
end Cu
end
section
namespace Cu
open Go.RowKit Sy
set_option maxRecDepth 100000
set_option maxHeartbeats 4000000
theorem JP (w:World) (nm:ByteArray) (hnm:nm.size≤1000000000) (T:Option Addr) (ts:List Sh.Tx) (n ct:Nat) (hn:ts.length=n) (hn2:n≤1000000000) (hT:Sh.Texts w T ts) (htr:Sh.TabAt w 0) (hm:(Sh.cat ts).length≤1000000000):Calls Tryz.prog 70 #[.string nm,.slice T n ct] w (Gets w (fv (Au (Sh.taggedS nm.data.toList (Sh.cat ts))%Sc.pM))):=by
 refine Sy.enter (args:=[.string nm,.slice T n ct]) Tryz.func70 rfl kL ?_
 refine sC ?_
 refine sM 46 (fcs 0) (λg0=>?_)
 refine sA ?_
 refine sP (.string nm)<|sP (.slice T n ct) ?_
 obtain ⟨dT,hdT⟩:∃ l,l=Sh.taggedS nm.data.toList (Sh.cat ts):=⟨_,rfl⟩
 have hdl:dT.length=32:=by rw [hdT]; exact CD _ _
 refine sS (.agg (dT.map bv).toArray) (qG 51 #[.string nm,.slice T n ct] (λw hw=>by rw [hdT]; subst hn; exact Sh.taggedR_any w nm T ts ct (hT.below hw.below) (htr.below hw.below htr.lt) hnm hm hn2))<|sS (fv (Au dT%Sc.pM)) (qF 85 #[.agg (dT.map bv).toArray] (λw=>O8 w dT hdl))<|sW 0 g0 46 (fcs 0) (fcs (Au dT%Sc.pM)) (wS 0 46 (fcs (Au dT%Sc.pM)) rfl) ?_
 refine sG<|Sy.ret ?_
 rw [show (fv (Au (Sh.taggedS nm.data.toList (Sh.cat ts))%Sc.pM):Value)=fv (Au dT%Sc.pM) from by rw [hdT]]
 exact rC (v:=fv (Au dT%Sc.pM)) 46 g0 0 (fcs (Au dT%Sc.pM)) rfl Tryz.underlying46
theorem KZ {w:World} {nm:ByteArray} (hnm:nm.size≤1000000000) {g g3:Nat} {t t3:TypeId} {a b:Sh.Tx} {av bv':Value} (ha:a.val=av) (hb:b.val=bv') (hao:a.ok w) (hbo:b.ok w) {l:List UInt8} {k:Nat} (hk:l.length=k) (hk2:k≤60) (h3:Blk w g3 t3 (l.map bv).toArray) (h:Blk w g t #[av,bv',.slice (some ⟨g3,0,none⟩) k k]) (hl:a.l.length+b.l.length≤999999900) (ht:Sh.TabAt w 0) :
  Calls Tryz.prog 70 #[.string nm,.slice (some ⟨g,0,none⟩) 3 3] w (Gets w (fv (Au (Sh.taggedS nm.data.toList (a.l++b.l++l))%Sc.pM))):=by
 subst ha hb hk
 have e:Sh.cat [a,b,⟨some ⟨g3,0,none⟩,l,l.length⟩]=a.l++b.l++l:=by simp [Sh.cat]
 have q:=JP w nm hnm (some ⟨g,0,none⟩) [a,b,⟨some ⟨g3,0,none⟩,l,l.length⟩] 3 3 rfl (by decide) (E2 (by
  rw [List.map_cons,List.map_cons,List.map_cons,List.map_nil]
  exact h) (ok3 hao hbo ⟨Sh.Src.of_blk h3,Nat.le_refl _,by show l.length≤_; omega⟩)) ht (by rw [e,List.length_append,List.length_append]; omega)
 rw [e] at q
 exact q
def JB (P:Pt) (v:Value) (M:AE):Prop:=∃ (g:Nat) (sp:List Value) (cap:Nat),v=.slice (some ⟨g,0,none⟩) 33 cap∧(33≤cap∧cap≤9223372036854775807)∧M=[(g,5,((A3 P).map bv++sp).toArray)]
theorem Io {w:World} {g:Nat} {t:TypeId} {l:List UInt8} {sp:List Value} {c n:Nat} (hb:Blk w g t (l.map bv++sp).toArray) (hl:l.length=n) (hc:n≤c∧c≤9223372036854775807):(Sh.Tx.mk (some ⟨g,0,none⟩) l c).ok w:=⟨D5 hb,by show l.length≤c; omega,hc.2⟩
theorem MN (w:World) (MA:Option Addr) (bm:List UInt8) (mc:Nat) (hbm:bm.length=32) (hmc:32≤mc) (hmc2:mc≤9223372036854775807) (hms:Sh.Src w MA bm) (A:Option Addr) (x:List UInt8) (n c:Nat) (hx:x.length=n) (hm:n≤999000000) (hc:n≤c) (hc2:c≤9223372036854775807) (hs0:Sh.Src w A x) (i j:Nat) (hi:i<256) (hj:j<256) (htr:Sh.TabAt w 0):Calls Tryz.prog 50 #[.slice MA 32 mc,.slice A n c,.int .i64 ((i:Nat):Int),.int .i64 ((j:Nat):Int)] w (Gets w (fv (rgC bm x i j))):=by
 refine Sy.enter (args:=[.slice MA 32 mc,.slice A n c,.int .i64 ((i:Nat):Int),.int .i64 ((j:Nat):Int)]) Tryz.func50 rfl kL ?_
 refine sC ?_
 refine sM 46 (fcs 0) (λg0=>?_)
 refine sA ?_
 refine sP (.slice MA 32 mc)<|sP (.slice A n c)<|sP (.int .i64 ((i:Nat):Int))<|sS (bv (UInt8.ofNat i)) (Quiet.pure (λw=>B3 w _ _ _ i (by omega) rfl rfl))<|sP (.int .i64 ((j:Nat):Int))<|sS (bv (UInt8.ofNat j)) (Quiet.pure (λw=>B3 w _ _ _ j (by omega) rfl rfl)) ?_
 refine Sy.make kR 5 #[bv (UInt8.ofNat i),bv (UInt8.ofNat j)] (λg=>.slice (some ⟨g,0,none⟩) 2 2) kF (λg1=>?_)
 refine Sy.make kR 24 #[.slice MA 32 mc,.slice A n c,.slice (some ⟨g1,0,none⟩) 2 2] (λg=>.slice (some ⟨g,0,none⟩) 3 3) kF (λg2=>?_)
 refine sS (fv (rgC bm x i j)) (qG 70 #[.string rgStep,.slice (some ⟨g2,0,none⟩) 3 3] (λw hw=>KZ (nm:=rgStep) (a:=⟨MA,bm,mc⟩) (b:=⟨A,x,c⟩) (l:=[(UInt8.ofNat i),(UInt8.ofNat j)]) (k:=2) (by decide) (by unfold Sh.Tx.val; rw [hbm]) (by unfold Sh.Tx.val; rw [hx]) (⟨hms.below hw.below,by show bm.length≤mc; omega,hmc2⟩) (⟨hs0.below hw.below,by show x.length≤c; omega,hc2⟩) rfl (by decide) (hw.get (i:=1) rfl) (hw.get (i:=2) rfl) (by show bm.length+x.length≤999999900; omega) (htr.below hw.below htr.lt)))<|sW 0 g0 46 (fcs 0) (fcs (rgC bm x i j)) (wS 0 46 (fcs (rgC bm x i j)) rfl) ?_
 refine sG<|Sy.ret ?_
 rw [show (fv (rgC bm x i j):Value)=fv (rgC bm x i j) from rfl]
 exact rC (v:=fv (rgC bm x i j)) 46 g0 0 (fcs (rgC bm x i j)) rfl Tryz.underlying46
theorem Kr (w:World) (sd:List UInt8) (hsd:sd.length=32) (MA:Option Addr) (bm:List UInt8) (mc:Nat) (hbm:bm.length=32) (hmc:32≤mc) (hmc2:mc≤9223372036854775807) (hms:Sh.Src w MA bm) (i:Nat) (hi:i<256) (htr:Sh.TabAt w 0):Calls Tryz.prog 48 #[.agg (sd.map bv).toArray,.slice MA 32 mc,.int .i64 ((i:Nat):Int)] w (Gets w (fv (rgN bm sd i))):=by
 refine Sy.enter (args:=[.agg (sd.map bv).toArray,.slice MA 32 mc,.int .i64 ((i:Nat):Int)]) Tryz.func48 rfl kL ?_
 refine sC ?_
 refine sM 23 (sd.map bv).toArray (λg0=>?_)
 refine sM 46 (fcs 0) (λg1=>?_)
 refine sA ?_
 refine sS (.agg (sd.map bv).toArray) (Quiet.load 0 g0 0 32 23 23 (sd.map bv).toArray _ _ rfl kR kR Tryz.underlying23 rfl kR _ (A2 sd hsd) (BF sd hsd)) ?_
 refine Sy.callN kR 57 #[.agg (sd.map bv).toArray] kF ((λvq Mq=>∃ (g:Nat) (sp:List Value) (cap:Nat),vq=.slice (some ⟨g,0,none⟩) 32 cap∧(32≤cap∧cap≤9223372036854775807)∧Mq=[(g,5,(sd.map bv++sp).toArray)])) (λw hw=>DA w sd hsd) (λvq Mq hR0=>?_)
 obtain ⟨qx,spx,cpx,rfl,hcx,rfl⟩:=hR0
 refine sP (.slice MA 32 mc)<|sP (.int .i64 ((i:Nat):Int))<|sS (bv (UInt8.ofNat i)) (Quiet.pure (λw=>B3 w _ _ _ i (by omega) rfl rfl)) ?_
 refine Sy.make kR 5 #[bv (UInt8.ofNat i)] (λg=>.slice (some ⟨g,0,none⟩) 1 1) kF (λg2=>?_)
 refine Sy.make kR 24 #[.slice (some ⟨qx,0,none⟩) 32 cpx,.slice MA 32 mc,.slice (some ⟨g2,0,none⟩) 1 1] (λg=>.slice (some ⟨g,0,none⟩) 3 3) kF (λg3=>?_)
 refine sS (fv (rgN bm sd i)) (qG 70 #[.string rgNonce,.slice (some ⟨g3,0,none⟩) 3 3] (λw hw=>KZ (nm:=rgNonce) (a:=⟨some ⟨qx,0,none⟩,sd,cpx⟩) (b:=⟨MA,bm,mc⟩) (l:=[(UInt8.ofNat i)]) (k:=1) (by decide) (by unfold Sh.Tx.val; rw [hsd]) (by unfold Sh.Tx.val; rw [hbm]) (Io (hw.get (i:=2) rfl) hsd hcx) (⟨hms.below hw.below,by show bm.length≤mc; omega,hmc2⟩) rfl (by decide) (hw.get (i:=3) rfl) (hw.get (i:=4) rfl) (by show sd.length+bm.length≤999999900; omega) (htr.below hw.below htr.lt)))<|sW 1 g1 46 (fcs 0) (fcs (rgN bm sd i)) (wS 0 46 (fcs (rgN bm sd i)) rfl) ?_
 refine sG<|Sy.ret ?_
 rw [show (fv (rgN bm sd i):Value)=fv (rgN bm sd i) from rfl]
 exact rC (v:=fv (rgN bm sd i)) 46 g1 1 (fcs (rgN bm sd i)) rfl Tryz.underlying46
theorem Mw (w:World) (sd:List UInt8) (hsd:sd.length=32) (MA:Option Addr) (bm:List UInt8) (mc:Nat) (hbm:bm.length=32) (hmc:32≤mc) (hmc2:mc≤9223372036854775807) (hms:Sh.Src w MA bm) (i j:Nat) (hi:i<256) (hj:j<256) (htr:Sh.TabAt w 0):Calls Tryz.prog 25 #[.agg (sd.map bv).toArray,.slice MA 32 mc,.int .i64 ((i:Nat):Int),.int .i64 ((j:Nat):Int)] w (Gets w (fv (rgF bm sd i j))):=by
 refine Sy.enter (args:=[.agg (sd.map bv).toArray,.slice MA 32 mc,.int .i64 ((i:Nat):Int),.int .i64 ((j:Nat):Int)]) Tryz.func25 rfl kL ?_
 refine sC ?_
 refine sM 23 (sd.map bv).toArray (λg0=>?_)
 refine sM 46 (fcs 0) (λg1=>?_)
 refine sA ?_
 refine sS (.agg (sd.map bv).toArray) (Quiet.load 0 g0 0 32 23 23 (sd.map bv).toArray _ _ rfl kR kR Tryz.underlying23 rfl kR _ (A2 sd hsd) (BF sd hsd)) ?_
 refine Sy.callN kR 57 #[.agg (sd.map bv).toArray] kF ((λvq Mq=>∃ (g:Nat) (sp:List Value) (cap:Nat),vq=.slice (some ⟨g,0,none⟩) 32 cap∧(32≤cap∧cap≤9223372036854775807)∧Mq=[(g,5,(sd.map bv++sp).toArray)])) (λw hw=>DA w sd hsd) (λvq Mq hR0=>?_)
 obtain ⟨qx,spx,cpx,rfl,hcx,rfl⟩:=hR0
 refine sP (.slice MA 32 mc)<|sP (.int .i64 ((i:Nat):Int))<|sS (bv (UInt8.ofNat i)) (Quiet.pure (λw=>B3 w _ _ _ i (by omega) rfl rfl))<|sP (.int .i64 ((j:Nat):Int))<|sS (bv (UInt8.ofNat j)) (Quiet.pure (λw=>B3 w _ _ _ j (by omega) rfl rfl)) ?_
 refine Sy.make kR 5 #[bv (UInt8.ofNat i),bv (UInt8.ofNat j)] (λg=>.slice (some ⟨g,0,none⟩) 2 2) kF (λg2=>?_)
 refine Sy.make kR 24 #[.slice (some ⟨qx,0,none⟩) 32 cpx,.slice MA 32 mc,.slice (some ⟨g2,0,none⟩) 2 2] (λg=>.slice (some ⟨g,0,none⟩) 3 3) kF (λg3=>?_)
 refine sS (fv (rgF bm sd i j)) (qG 70 #[.string rgFake,.slice (some ⟨g3,0,none⟩) 3 3] (λw hw=>KZ (nm:=rgFake) (a:=⟨some ⟨qx,0,none⟩,sd,cpx⟩) (b:=⟨MA,bm,mc⟩) (l:=[(UInt8.ofNat i),(UInt8.ofNat j)]) (k:=2) (by decide) (by unfold Sh.Tx.val; rw [hsd]) (by unfold Sh.Tx.val; rw [hbm]) (Io (hw.get (i:=2) rfl) hsd hcx) (⟨hms.below hw.below,by show bm.length≤mc; omega,hmc2⟩) rfl (by decide) (hw.get (i:=3) rfl) (hw.get (i:=4) rfl) (by show sd.length+bm.length≤999999900; omega) (htr.below hw.below htr.lt)))<|sW 1 g1 46 (fcs 0) (fcs (rgF bm sd i j)) (wS 0 46 (fcs (rgF bm sd i j)) rfl) ?_
 refine sG<|Sy.ret ?_
 rw [show (fv (rgF bm sd i j):Value)=fv (rgF bm sd i j) from rfl]
 exact rC (v:=fv (rgF bm sd i j)) 46 g1 1 (fcs (rgF bm sd i j)) rfl Tryz.underlying46
theorem Ml (w:World) (s e px py:Nat) (pi:Bool) (hs:s<K4) (he:e<K4) (hpx:px<K4) (hpy:py<K4):Calls Tryz.prog 49 #[fv s,fv e,pv px py pi] w (GetsN w (JB (rPt s e px py pi))):=by
 refine Sy.enter (args:=[fv s,fv e,pv px py pi]) Tryz.func49 rfl kL ?_
 refine sC ?_
 refine sM 46 (fcs s) (λg0=>?_)
 refine sM 46 (fcs e) (λg1=>?_)
 refine sM 52 (pcs px py pi) (λg2=>?_)
 refine sP (.slice none 0 0) ?_
 refine sH (λj=>false) ?_
 refine sD 0 rfl (fv s) (qL 0 g0 0 4 46 46 (fcs s) rfl Tryz.underlying46)<|sD 1 rfl (pv (pX bP) (pY bP) (pI bP)) (qF 23 #[] (λw=>by rw [← CE]; exact I5 w)) ?_
 obtain ⟨R1,hR1⟩:∃ P:Pt,P=Ec.nm Ac (s%Sc.pM) bP:=⟨_,rfl⟩
 have oR1:Ec.On R1:=by rw [hR1]; exact bP_on.nm fld _
 refine sD 2 rfl (pv (pX R1) (pY R1) (pI R1)) (qF 22 #[fv s,pv (pX bP) (pY bP) (pI bP)] (Iq lP lP lP (CF bP_on) hR1.symm))<|sD 3 rfl (fv e) (qL 1 g1 0 4 46 46 (fcs e) rfl Tryz.underlying46)<|sD 4 rfl (pv px py pi) (qL 2 g2 0 9 52 52 (pcs px py pi) rfl Tryz.underlying52) ?_
 obtain ⟨R2,hR2⟩:∃ P:Pt,P=Ec.nm Ac (e%Sc.pM) (dec px py pi):=⟨_,rfl⟩
 have oR2:Ec.On R2:=by rw [hR2]; exact (FN _ _ _).nm fld _
 refine sD 5 rfl (pv (pX R2) (pY R2) (pI R2)) (qF 22 #[fv e,pv px py pi] (Iq lP lP lP rfl hR2.symm)) ?_
 obtain ⟨R3,hR3⟩:∃ P:Pt,P=Ec.add Ac R1 R2:=⟨_,rfl⟩
 have oR3:Ec.On R3:=by rw [hR3]; exact Ec.On.add fld oR1 oR2
 refine sD 6 rfl (pv (pX R3) (pY R3) (pI R3)) (qF 86 #[pv (pX R1) (pY R1) (pI R1),pv (pX R2) (pY R2) (pI R2)] (QG lP lP lP lP (CF oR1) (CF oR2)  hR3.symm)) ?_
 refine Sy.callND 7 rfl kR kR 47 #[pv (pX R3) (pY R3) (pI R3)] kF ((JB R3)) (λw hw=>by have q:=J3 w (pX R3) (pY R3) (pI R3) (Hz _) (Hy _); rw [(CF oR3)] at q; exact q) (λvq Mq hR0=>?_)
 obtain ⟨q8,sp8,cp8,rfl,hc8,rfl⟩:=hR0
 refine sZ 8 rfl (.slice (some ⟨q8,0,none⟩) 33 cp8) ?_
 refine sI ?_
 refine Sy.ret ?_
 exact JW 3 (q8,5,((A3 R3).map bv++sp8).toArray) rfl (v:=.slice (some ⟨q8,0,none⟩) 33 cp8) (.inl (show _=_ by kernel_rfl)) kR ⟨_,sp8,cp8,rfl,hc8,by rw [hR3,hR2,hR1]; rfl⟩
end Cu
end
section
namespace Cu
open Go.RowKit Sy
set_option maxRecDepth 100000
set_option maxHeartbeats 4000000
section
variable {NR:Nat} {nk:Nat→Nat} {X Y:Nat→Nat→Nat} {I:Nat→Nat→Bool}
theorem Ia (h:szB NR nk=false):Bp NR nk X Y I=false:=by unfold Bp; rw [h,Bool.false_and]
theorem LY (h:¬ (1≤NR∧NR≤32∧∀ j,j<NR→1≤nk j∧nk j≤64)):szB NR nk=false:=by
 rw [← Bool.not_eq_true,Fn]
 exact h
theorem Qo (h:NR<1):Bp NR nk X Y I=false:=Ia (LY (λq=>by omega))
theorem Qn (h:NR>32):Bp NR nk X Y I=false:=Ia (LY (λq=>by omega))
theorem Qq {k:Nat} (hk:k<NR) (h:nk k<1):Bp NR nk X Y I=false:=Ia (LY (λq=>by have:=q.2.2 k hk; omega))
theorem Qp {k:Nat} (hk:k<NR) (h:nk k>64):Bp NR nk X Y I=false:=Ia (LY (λq=>by have:=q.2.2 k hk; omega))
theorem O_ {k j:Nat} (hk:k<NR) (hj:j<nk k) (h:Am (X k j) (Y k j) (I k j)=false):Bp NR nk X Y I=false:=by
 unfold Bp
 have:(List.range NR).any (Ed nk X Y I)=true:=List.any_eq_true.2 ⟨k,List.mem_range.2 hk,List.any_eq_true.2 ⟨j,List.mem_range.2 hj,by unfold EJ; rw [h]; rfl⟩⟩
 rw [this,Bool.not_true,Bool.and_false]
theorem O9 (h1:¬ NR<1) (h2:¬ NR>32) (h3:∀ k,k<NR→(1≤nk k∧nk k≤64)∧∀ j,j<nk k→Am (X k j) (Y k j) (I k j)=true):Bp NR nk X Y I=true:=by
 unfold Bp
 have hs:szB NR nk=true:=(Fn NR nk).2 ⟨by omega,by omega,λj hj=>(h3 j hj).1⟩
 have:(List.range NR).any (Ed nk X Y I)=false:=by
  rw [List.any_eq_false]
  intro k hk
  rw [Bool.not_eq_true]
  unfold Ed
  rw [List.any_eq_false]
  intro j hj
  unfold EJ
  rw [(h3 k (List.mem_range.1 hk)).2 j (List.mem_range.1 hj)]
  decide
 rw [hs,this]
 rfl
end
def A5 (l:List UInt8):List (List Value):=l.map λb=>[bv b]
theorem B_ (l:List UInt8):(A5 l).length=l.length:=List.length_map ..
theorem C7:∀ l:List UInt8,(A5 l).flatten=l.map bv
 | []=>rfl
 | b::l=>by
  show [bv b]++(A5 l).flatten=_
  rw [C7 l]
  rfl
theorem Ea (l:List UInt8):∀ y∈A5 l,y.length=1:=λy hy=>by obtain ⟨b,_,rfl⟩:=List.mem_map.1 hy; rfl
theorem Dz (l:List UInt8):∀ y∈A5 l, ∀ u∈y,u.oneCell'=true:=λy hy u hu=>by
 obtain ⟨b,_,rfl⟩:=List.mem_map.1 hy
 rw [List.mem_singleton.1 hu]
 rfl
theorem Eb (a b:List UInt8):A5 (a++b)=A5 a++A5 b:=List.map_append
theorem From.src {w0:Base} {L:AE} {A:Option Addr} {l:List UInt8} (hs:Sh.Src w0.world A l):From w0 L A (A5 l).flatten:=λw hw=>by
 rw [C7]
 by_cases h0:l=[]
 ·subst h0; exact .inl rfl
 ·obtain ⟨b,o,rfl,h2,h3⟩:=hs h0
  refine .inr ⟨_,rfl,λj u hj=>?_⟩
  rw [CN]
  rw [List.getElem?_map] at hj
  cases hx:l[j]? with
  | none=>rw [hx] at hj; cases hj
  | some x =>
   rw [hx] at hj
   injection hj with hj
   rw [← hj]
   exact (hw.below.cell (p:=⟨b,o+j,none⟩) h2).trans (h3 j x hx)
theorem From.own {w0:Base} {L:AE} {i g:Nat} {t:TypeId} {l:List UInt8} {sp:List Value} (hL:L[i]? = some (g,t,(l.map bv++sp).toArray)):From w0 L (some ⟨g,0,none⟩) (A5 l).flatten:=by
 rw [C7]
 refine From.blk hL ?_
 show ((l.map bv++sp).drop 0).take _=_
 rw [List.drop_zero,List.take_left' rfl]
theorem From.arr {w0:Base} {L:AE} {i g:Nat} {t:TypeId} {l:List UInt8} (hL:L[i]? = some (g,t,(l.map bv).toArray)):From w0 L (some ⟨g,0,none⟩) (A5 l).flatten:=by
 rw [C7]
 refine From.blk hL ?_
 show ((l.map bv).drop 0).take _=_
 rw [List.drop_zero,List.take_of_length_le (Nat.le_refl _)]
theorem I3 {g:Nat} {e:TypeId}:Slc.Is ⟨.slice (some ⟨g,0,none⟩) 0 0,[(g,e,#[])]⟩ e 1 (A5 []):=Slc.Is.mk' (cs:=[]) (by simp [A5]) (by simp [A5]) rfl rfl rfl (Nat.le_refl _) (Nat.zero_le _)
theorem O3 {w:World} {A:Option Addr} {n:Nat} {l:List UInt8} (hn:l.length=n) (h:Lst w 1 A n (λi=>(A5 l).getD i [])):Sh.Src w A l:=λhne=>by
 obtain ⟨g,o,q⟩:=h
 obtain ⟨q1,q2,q3⟩:=q (by rw [← hn]; exact List.length_pos_iff.2 hne)
 refine ⟨g,o,q1,q2,λj u hj=>?_⟩
 have hl:=(List.getElem?_eq_some_iff.1 hj).1
 have q4:w.rangeAt g (o+j*1) ((A5 l).getD j []):=q3 j (by omega)
 rw [List.getD_eq_getElem?_getD,show (A5 l)[j]? = some [bv u] from by unfold A5; rw [List.getElem?_map,hj]; rfl] at q4
 have q5:=AR q4 0 rfl
 rwa [Nat.mul_one,Nat.add_zero] at q5
theorem Qm {e:TypeId} {y:Slc} {l:List UInt8} (h:y.Is e 1 (A5 l)):∃ A c,y.v=.slice A l.length c∧l.length≤c∧c≤maxLen∧∀ {w0:Base} {w:World} {L:AE},St w0 w L→(∀ b∈y.bl,b∈L)→Sh.Src w A l:=by
 obtain ⟨A,c,h1,h2,h3,h4⟩:=h.out
 rw [B_] at h1 h2 h4
 exact ⟨A,c,h1,h2,h3,λhw hb=>O3 rfl (h4 hw hb)⟩
noncomputable def R8:TypeInfo:=(Tryz.prog.info? 5).getD default
theorem Iy:Tryz.prog.info? 5=some R8:=by kernel_rfl
theorem N6 (w:World) (R:Option Addr) (NR cR:Nat) (a:Nat→Option Addr) (nk ck:Nat→Nat) (X Y:Nat→Nat→Nat) (I:Nat→Nat→Bool) (hX:∀ i k,X i k<K4) (hY:∀ i k,Y i k<K4) (hNR:NR≤4611686018427387904) (hnk:∀ i,nk i≤4611686018427387904) (hlr:Lst w 1 R NR (λi=>[.slice (a i) (nk i) (ck i)])) (hlk:∀ i,i<NR→Lst w 9 (a i) (nk i) (λk=>pml (X i k) (Y i k) (I i k))):Calls Tryz.prog 46 #[.slice R NR cR] w (Gets w (.bool (Bp NR nk X Y I))):=by
 have hlr0:=hlr
 obtain ⟨gR,oR,hR⟩:=hlr
 refine Sy.enter (args:=[.slice R NR cR]) Tryz.func46 rfl kL ?_
 refine sC ?_
 refine sP (.bool false) ?_
 refine sG<|Sy.seq<|sC ?_
 refine sP (.slice R NR cR)<|sP (.int .i64 ((NR:Nat):Int)) ?_
 obtain ⟨b1,hb1⟩:∃ z:Bool,z=decide (NR<1):=⟨_,rfl⟩
 refine sS (.bool b1) (Quiet.pure (AC .lss _ _ _ .i64 _ _ _ rfl rfl rfl (AY _ _ _ _ _ (by rw [hb1]; exact decide_eq_decide.2 (by omega)))))<|sP (.bool b1) ?_
 cases b1
 ·have lb1:¬ (NR<1):=of_decide_eq_false hb1.symm
  refine sP (.slice R NR cR)<|sP (.int .i64 ((NR:Nat):Int)) ?_
  obtain ⟨b2,hb2⟩:∃ z:Bool,z=decide (NR>32):=⟨_,rfl⟩
  refine sS (.bool b2) (Quiet.pure (AC .gtr _ _ _ .i64 _ _ _ rfl rfl rfl (CL _ _ _ _ _ (by rw [hb2]; exact decide_eq_decide.2 (by omega)))))<|sP (.bool b2) ?_
  refine sG ?_
  cases b2
  ·have lb2:¬ (NR>32):=of_decide_eq_false hb2.symm
   refine sU<|Sy.skip<|Sy.then_<|Sy.seq<|sC ?_
   refine sP (.int .i64 0) ?_
   refine sG<|Sy.block ?_
   refine Sy.loopH NR (λk1=>∀ i,i<k1→(1≤nk i∧nk i≤64)∧∀ j,j<nk i→Am (X i j) (Y i j) (I i j)=true) (λk1=>[(0,.slice R NR cR),(3,.int .i64 ((k1:Nat):Int))]) (λk1=>[]) [] (M:=[]) (λi hi=>absurd hi (Nat.not_lt_zero _)) ac2 kR rfl (λk1 hk1 hh=>?_)
   have hh1:=hh
   refine Sy.seq<|sC ?_
   refine sP (.int .i64 ((k1:Nat):Int))<|sP (.slice R NR cR)<|sP (.int .i64 ((NR:Nat):Int)) ?_
   obtain ⟨b3,hb3⟩:∃ z:Bool,z=decide (k1<NR):=⟨_,rfl⟩
   refine sS (.bool b3) (Quiet.pure (AC .lss _ _ _ .i64 _ _ _ rfl rfl rfl (AY _ _ _ _ _ (by rw [hb3]; exact decide_eq_decide.2 (by omega))))) ?_
   refine sG ?_
   cases b3
   ·have lb3:¬ (k1<NR):=of_decide_eq_false hb3.symm
    refine sU<|Sy.exit<|Sy.then_exit<|Sy.then_exit ?_
    obtain rfl:NR=k1:=by omega
    refine Sy.in_exit<|sB ?_
    refine sP (.bool true) ?_
    refine sG<|Sy.ret ?_
    rw [show (.bool (Bp NR nk X Y I):Value)=.bool true from by rw [O9 lb1 lb2 (λk hk=>hh1 k (by omega))]]
    exact rV (.bool true) rfl
   ·have lb3:k1<NR:=of_decide_eq_true hb3.symm
    obtain ⟨gK,oK,hT⟩:=hlk k1 lb3
    have hnk9:=hnk k1
    refine sT<|Sy.skip<|Sy.then_<|Sy.seq<|Sy.block<|Sy.seq<|sC ?_
    refine sP (.slice R NR cR)<|sP (.int .i64 ((k1:Nat):Int))<|sS (.pointer (some ⟨gR,oR+k1*1,none⟩)) (Quiet.pure (AJ 25 _ _ _ R gR oR NR cR k1 1 .i64 (hR (by omega)).1 rfl rfl rfl Tryz.underlying25 kF (by omega)))<|sS (.slice (a k1) (nk k1) (ck k1)) (Quiet.thereOne gR (oR+k1*1) 49 _ _ rfl kR (hR (by omega)).2.1 _ (AR ((hR (by omega)).2.2 k1 (by omega)) 0 rfl) Tryz.underlying49 rfl)<|sP (.int .i64 (((nk k1):Nat):Int)) ?_
    obtain ⟨b4,hb4⟩:∃ z:Bool,z=decide ((nk k1)<1):=⟨_,rfl⟩
    refine sS (.bool b4) (Quiet.pure (AC .lss _ _ _ .i64 _ _ _ rfl rfl rfl (AY _ _ _ _ _ (by rw [hb4]; exact decide_eq_decide.2 (by omega)))))<|sP (.bool b4) ?_
    cases b4
    ·have lb4:¬ ((nk k1)<1):=of_decide_eq_false hb4.symm
     refine sP (.slice R NR cR)<|sP (.int .i64 ((k1:Nat):Int))<|sS (.pointer (some ⟨gR,oR+k1*1,none⟩)) (Quiet.pure (AJ 25 _ _ _ R gR oR NR cR k1 1 .i64 (hR (by omega)).1 rfl rfl rfl Tryz.underlying25 kF (by omega)))<|sS (.slice (a k1) (nk k1) (ck k1)) (Quiet.thereOne gR (oR+k1*1) 49 _ _ rfl kR (hR (by omega)).2.1 _ (AR ((hR (by omega)).2.2 k1 (by omega)) 0 rfl) Tryz.underlying49 rfl)<|sP (.int .i64 (((nk k1):Nat):Int)) ?_
     obtain ⟨b5,hb5⟩:∃ z:Bool,z=decide ((nk k1)>64):=⟨_,rfl⟩
     refine sS (.bool b5) (Quiet.pure (AC .gtr _ _ _ .i64 _ _ _ rfl rfl rfl (CL _ _ _ _ _ (by rw [hb5]; exact decide_eq_decide.2 (by omega)))))<|sP (.bool b5) ?_
     refine sG ?_
     cases b5
     ·have lb5:¬ ((nk k1)>64):=of_decide_eq_false hb5.symm
      refine sU<|Sy.skip<|sB ?_
      refine sP (.int .i64 0) ?_
      refine sG<|Sy.block ?_
      refine Sy.loopH (nk k1) (λk2=>∀ j,j<k2→Am (X k1 j) (Y k1 j) (I k1 j)=true) (λk2=>[(0,.slice R NR cR),(3,.int .i64 ((k1:Nat):Int)),(4,.int .i64 ((k2:Nat):Int))]) (λk2=>[]) [] (M:=[]) (λi hi=>absurd hi (Nat.not_lt_zero _)) ac3 kR rfl (λk2 hk2 hh=>?_)
      have hh2:=hh
      refine Sy.seq<|sC ?_
      refine sP (.int .i64 ((k2:Nat):Int))<|sP (.slice R NR cR)<|sP (.int .i64 ((k1:Nat):Int))<|sS (.pointer (some ⟨gR,oR+k1*1,none⟩)) (Quiet.pure (AJ 25 _ _ _ R gR oR NR cR k1 1 .i64 (hR (by omega)).1 rfl rfl rfl Tryz.underlying25 kF (by omega)))<|sS (.slice (a k1) (nk k1) (ck k1)) (Quiet.thereOne gR (oR+k1*1) 49 _ _ rfl kR (hR (by omega)).2.1 _ (AR ((hR (by omega)).2.2 k1 (by omega)) 0 rfl) Tryz.underlying49 rfl)<|sP (.int .i64 (((nk k1):Nat):Int)) ?_
      obtain ⟨b6,hb6⟩:∃ z:Bool,z=decide (k2<(nk k1)):=⟨_,rfl⟩
      refine sS (.bool b6) (Quiet.pure (AC .lss _ _ _ .i64 _ _ _ rfl rfl rfl (AY _ _ _ _ _ (by rw [hb6]; exact decide_eq_decide.2 (by omega))))) ?_
      refine sG ?_
      cases b6
      ·have lb6:¬ (k2<(nk k1)):=of_decide_eq_false hb6.symm
       refine sU<|Sy.exit<|Sy.then_exit<|Sy.then_exit ?_
       obtain rfl:nk k1=k2:=by omega
       refine Sy.in_exit<|Sy.in_<|Sy.then_<|Sy.region ?_
       refine sP (.int .i64 ((k1:Nat):Int))<|sS (.int .i64 ((k1+1:Nat):Int)) (Quiet.pure (AC .add _ _ _ .i64 _ _ _ rfl rfl rfl (AO _ _ _ _ _ ((AH (by omega) (by omega)).trans (by omega)))))<|sP (.int .i64 ((k1+1:Nat):Int)) ?_
       refine Sy.nil ?_
       exact Sy.againH [] (M:=[]) (by omega) (λi hi=>(Nat.lt_succ_iff_lt_or_eq.1 hi).elim (hh1 i) (λh=>by subst h; exact ⟨⟨by omega,by omega⟩,λj hj=>hh2 j (by omega)⟩)) ac2 kR rfl
      ·have lb6:k2<(nk k1):=of_decide_eq_true hb6.symm
       refine sT<|Sy.skip<|Sy.then_<|Sy.seq<|Sy.block<|sC ?_
       refine sP (.slice R NR cR)<|sP (.int .i64 ((k1:Nat):Int))<|sS (.pointer (some ⟨gR,oR+k1*1,none⟩)) (Quiet.pure (AJ 25 _ _ _ R gR oR NR cR k1 1 .i64 (hR (by omega)).1 rfl rfl rfl Tryz.underlying25 kF (by omega)))<|sS (.slice (a k1) (nk k1) (ck k1)) (Quiet.thereOne gR (oR+k1*1) 49 _ _ rfl kR (hR (by omega)).2.1 _ (AR ((hR (by omega)).2.2 k1 (by omega)) 0 rfl) Tryz.underlying49 rfl)<|sP (.int .i64 ((k2:Nat):Int))<|sS (.pointer (some ⟨gK,oK+k2*9,none⟩)) (Quiet.pure (AJ 49 _ _ _ (a k1) gK oK (nk k1) (ck k1) k2 9 .i64 (hT (by omega)).1 rfl rfl rfl Tryz.underlying49 kF (by omega)))<|sS (pv (X k1 k2) (Y k1 k2) (I k1 k2)) (Quiet.there gK (oK+k2*9) 9 52 (pml (X k1 k2) (Y k1 k2) (I k1 k2)) _ _ rfl kR (hT (by omega)).2.1 ((hT (by omega)).2.2 k2 (by omega)) Tryz.underlying52 rfl kR rfl _ rfl) ?_
       obtain ⟨b7,hb7⟩:∃ z:Bool,z=Am (X k1 k2) (Y k1 k2) (I k1 k2):=⟨_,rfl⟩
       refine sS (.bool b7) (qF 111 #[pv (X k1 k2) (Y k1 k2) (I k1 k2)] (λw=>by rw [hb7]; exact JU w _ _ _ (hX _ _) (hY _ _)))<|sP (.bool b7) ?_
       refine sA ?_
       refine sP (.bool b7) ?_
       cases b7
       ·refine sP (.bool true) ?_
        refine sG<|sT<|sC ?_
        refine sP (.bool false) ?_
        refine sG<|Sy.ret<|Sy.in_ret<|Sy.then_ret<|Sy.then_ret<|Sy.in_ret<|Sy.in_ret<|Sy.then_ret<|Sy.then_ret<|Sy.in_ret<|Sy.then_ret ?_
        rw [show (.bool (Bp NR nk X Y I):Value)=.bool false from by rw [O_ (k:=k1) (j:=k2) (by assumption) (by assumption) hb7.symm]]
        exact rV (.bool false) rfl
       ·refine sP (.bool false) ?_
        refine sG<|sU<|Sy.skip<|Sy.in_<|Sy.then_<|Sy.region ?_
        refine sP (.int .i64 ((k2:Nat):Int))<|sS (.int .i64 ((k2+1:Nat):Int)) (Quiet.pure (AC .add _ _ _ .i64 _ _ _ rfl rfl rfl (AO _ _ _ _ _ ((AH (by omega) (by omega)).trans (by omega)))))<|sP (.int .i64 ((k2+1:Nat):Int)) ?_
        refine Sy.nil ?_
        exact Sy.againH [] (M:=[]) (by omega) (λj hj=>(Nat.lt_succ_iff_lt_or_eq.1 hj).elim (hh2 j) (λh=>by subst h; exact hb7.symm)) ac3 kR rfl
     ·have lb5:(nk k1)>64:=of_decide_eq_true hb5.symm
      refine sT<|sC ?_
      refine sP (.bool false) ?_
      refine sG<|Sy.ret<|Sy.then_ret<|Sy.in_ret<|Sy.then_ret<|Sy.then_ret<|Sy.in_ret<|Sy.then_ret ?_
      rw [show (.bool (Bp NR nk X Y I):Value)=.bool false from by rw [Qp (by assumption) lb5]]
      exact rV (.bool false) rfl
    ·have lb4:(nk k1)<1:=of_decide_eq_true hb4.symm
     refine sN<|sN<|sN<|sN<|sN<|sN ?_
     refine sP (.bool true) ?_
     refine sG<|sT<|sC ?_
     refine sP (.bool false) ?_
     refine sG<|Sy.ret<|Sy.then_ret<|Sy.in_ret<|Sy.then_ret<|Sy.then_ret<|Sy.in_ret<|Sy.then_ret ?_
     rw [show (.bool (Bp NR nk X Y I):Value)=.bool false from by rw [Qq (by assumption) lb4]]
     exact rV (.bool false) rfl
  ·have lb2:NR>32:=of_decide_eq_true hb2.symm
   refine sT<|sC ?_
   refine sP (.bool false) ?_
   refine sG<|Sy.ret<|Sy.then_ret ?_
   rw [show (.bool (Bp NR nk X Y I):Value)=.bool false from by rw [Qn lb2]]
   exact rV (.bool false) rfl
 ·have lb1:NR<1:=of_decide_eq_true hb1.symm
  refine sN<|sN<|sN ?_
  refine sP (.bool true) ?_
  refine sG<|sT<|sC ?_
  refine sP (.bool false) ?_
  refine sG<|Sy.ret<|Sy.then_ret ?_
  rw [show (.bool (Bp NR nk X Y I):Value)=.bool false from by rw [Qo lb1]]
  exact rV (.bool false) rfl
theorem N8 (w:World) (A:Option Addr) (m:List UInt8) (n c:Nat) (hm:m.length=n) (hm9:n≤999000000) (hc:n≤c) (hc2:c≤9223372036854775807) (hs0:Sh.Src w A m) (R:Option Addr) (NR cR:Nat) (a:Nat→Option Addr) (nk ck:Nat→Nat) (X Y:Nat→Nat→Nat) (I:Nat→Nat→Bool) (hX:∀ i k,X i k<K4) (hY:∀ i k,Y i k<K4) (hNR:NR≤4611686018427387904) (hnk:∀ i,nk i≤4611686018427387904) (hlr:Lst w 1 R NR (λi=>[.slice (a i) (nk i) (ck i)])) (hlk:∀ i,i<NR→Lst w 9 (a i) (nk i) (λk=>pml (X i k) (Y i k) (I i k))) (hN32:NR≤32) (hn64:∀ i,i<NR→nk i≤64) (htr:Sh.TabAt w 0):Calls Tryz.prog 21 #[.slice A n c,.slice R NR cR] w (GetsN w ((λvq Mq=>∃ (g:Nat) (sp:List Value) (cap:Nat),vq=.slice (some ⟨g,0,none⟩) 32 cap∧(32≤cap∧cap≤9223372036854775807)∧Mq=[(g,5,((rgM m NR nk X Y I).map bv++sp).toArray)]))):=by
 have hlr0:=hlr
 obtain ⟨gR,oR,hR⟩:=hlr
 refine Sy.enter (args:=[.slice A n c,.slice R NR cR]) Tryz.func21 rfl kL ?_
 refine sC ?_
 refine sP (.slice none 0 0) ?_
 refine sA ?_
 refine Sy.make kR 5 #[] (λg=>.slice (some ⟨g,0,none⟩) 0 0) kF (λg0=>?_)
 refine sP (.slice A n c) ?_
 refine Sy.permS (M:=[]++((⟨.slice (some ⟨g0,0,none⟩) 0 0,[(g0,5,#[])]⟩:Slc).bl++[])) (by exact List.Perm.refl _) ?_
 refine Sy.appendM kR 24 5 _ _ 1 1 Tryz.underlying24 Iy rfl rfl rfl rfl (by decide) _ _ rfl (ys:=A5 m) I3 kR (Ea _) (Dz _) A n c (by rw [B_]; exact hm) hc kR (λ_=>From.src hs0) (by simp [A5]; omega) (by simp [A5,maxLen]; omega) (λr1 hr1=>?_)
 refine sP (r1.v) ?_
 refine sG<|Sy.seq<|sC ?_
 refine sP (.int .i64 0) ?_
 refine sG<|Sy.block ?_
 refine Sy.loopT (Y:=Slc) NR (λk1 y1=>[(1,.slice R NR cR),(5,y1.v),(6,.int .i64 ((k1:Nat):Int))]) (λk1 y1=>[]++(y1.bl++[])) (λk1 y1=>y1.Is 5 1 (A5 (m++BQ nk X Y I k1))) r1 (by rw [show m++BQ nk X Y I 0=[]++m from List.append_nil m,Eb]; exact hr1) ac3 (λw hw=>hw) (λk1 y1 hk1 hh1=>?_)
 refine Sy.seq<|sC ?_
 refine sP (.int .i64 ((k1:Nat):Int))<|sP (.slice R NR cR)<|sP (.int .i64 ((NR:Nat):Int)) ?_
 obtain ⟨b1,hb1⟩:∃ z:Bool,z=decide (k1<NR):=⟨_,rfl⟩
 refine sS (.bool b1) (Quiet.pure (AC .lss _ _ _ .i64 _ _ _ rfl rfl rfl (AY _ _ _ _ _ (by rw [hb1]; exact decide_eq_decide.2 (by omega))))) ?_
 refine sG ?_
 cases b1
 ·have lb1:¬ (k1<NR):=of_decide_eq_false hb1.symm
  refine sU<|Sy.exit<|Sy.then_exit<|Sy.then_exit ?_
  obtain rfl:NR=k1:=by omega
  refine Sy.in_exit<|sB ?_
  obtain ⟨Ay,cy,hyv,hyc,hyc2,hys⟩:=Qm hh1
  refine sS (.slice Ay (m++BQ nk X Y I NR).length cy) (Quiet.pure (λw=>by rw [← hyv]; kernel_rfl)) ?_
  refine Sy.make kR 24 #[.slice Ay (m++BQ nk X Y I NR).length cy] (λg=>.slice (some ⟨g,0,none⟩) 1 1) kF (λg1=>?_)
  refine Sy.movT ?_
  obtain ⟨bM,hbM⟩:∃ l,l=rgM m NR nk X Y I:=⟨_,rfl⟩
  have hbl:bM.length=32:=by rw [hbM]; exact DW _ _ _ _ _ _
  refine sS (.agg (bM.map bv).toArray) (qG 51 #[.string rgRing,.slice (some ⟨g1,0,none⟩) 1 1] (λw hw=>by have hq:=B8 hn64 X Y I NR (Nat.le_refl _); have q:=Sh.taggedR_any w rgRing (some ⟨g1,0,none⟩) [⟨Ay,m++BQ nk X Y I NR,cy⟩] 1 (E2 (hw.get (i:=0) rfl) (λt ht=>by rw [List.mem_singleton.1 ht]; exact ⟨hys hw (λb hb=>List.mem_append.2 (.inr (List.mem_append.2 (.inl hb)))),hyc,by simp only [maxLen] at hyc2; exact hyc2⟩)) (htr.below hw.below htr.lt) (by decide) (by simp [Sh.cat]; omega) (by show 1≤1000000000; decide); rw [hbM]; rw [show Sh.cat [⟨Ay,m++BQ nk X Y I NR,cy⟩]=m++BQ nk X Y I NR by simp [Sh.cat]] at q; exact q)) ?_
  refine Sy.callN kR 57 #[.agg (bM.map bv).toArray] kF ((λvq Mq=>∃ (g:Nat) (sp:List Value) (cap:Nat),vq=.slice (some ⟨g,0,none⟩) 32 cap∧(32≤cap∧cap≤9223372036854775807)∧Mq=[(g,5,(bM.map bv++sp).toArray)])) (λw hw=>DA w bM hbl) (λvq Mq hR0=>?_)
  obtain ⟨qx,spx,cpx,rfl,hcx,rfl⟩:=hR0
  refine Sy.movT ?_
  refine sP (.slice (some ⟨qx,0,none⟩) 32 cpx) ?_
  refine sG<|Sy.ret ?_
  exact JW 1 (qx,5,(bM.map bv++spx).toArray) rfl (v:=.slice (some ⟨qx,0,none⟩) 32 cpx) (.inl (show _=_ by kernel_rfl)) kR ⟨qx,spx,cpx,rfl,hcx,by rw [hbM]⟩
 ·have lb1:k1<NR:=of_decide_eq_true hb1.symm
  have hnk1:=hn64 k1 lb1
  obtain ⟨gK,oK,hT⟩:=hlk k1 lb1
  have lK:=lb1
  refine sT<|Sy.skip<|Sy.then_<|Sy.seq<|Sy.block<|sC ?_
  refine sP (y1.v)<|sP (.slice R NR cR)<|sP (.int .i64 ((k1:Nat):Int))<|sS (.pointer (some ⟨gR,oR+k1*1,none⟩)) (Quiet.pure (AJ 25 _ _ _ R gR oR NR cR k1 1 .i64 (hR (by omega)).1 rfl rfl rfl Tryz.underlying25 kF (by omega)))<|sS (.slice (a k1) (nk k1) (ck k1)) (Quiet.thereOne gR (oR+k1*1) 49 _ _ rfl kR (hR (by omega)).2.1 _ (AR ((hR (by omega)).2.2 k1 (by omega)) 0 rfl) Tryz.underlying49 rfl)<|sP (.int .i64 (((nk k1):Nat):Int))<|sS (bv (UInt8.ofNat (nk k1))) (Quiet.pure (λw=>B3 w _ _ _ (nk k1) (by omega) rfl rfl)) ?_
  refine Sy.make kR 5 #[bv (UInt8.ofNat (nk k1))] (λg=>.slice (some ⟨g,0,none⟩) 1 1) kF (λg2=>?_)
  refine Sy.movT ?_
  refine Sy.appendM kR 24 5 _ _ 1 1 Tryz.underlying24 Iy rfl rfl rfl rfl (by decide) _ _ rfl (ys:=A5 [(UInt8.ofNat (nk k1))]) hh1 kR (Ea _) (Dz _) (some ⟨g2,0,none⟩) 1 1 rfl (Nat.le_refl _) kR (λ_=>From.arr (i:=0) (t:=5) (l:=[(UInt8.ofNat (nk k1))]) kR) (by have hq:=B8 hn64 X Y I _ (Nat.le_of_lt lK); simp only [B_,List.length_append,List.length_cons,List.length_nil,Ck]; omega) (by have hq:=B8 hn64 X Y I _ (Nat.le_of_lt lK); simp only [B_,List.length_append,List.length_cons,List.length_nil,Ck,maxLen]; omega) (λr2 hr2=>?_)
  refine sP (r2.v) ?_
  refine sA ?_
  refine sP (.int .i64 0) ?_
  refine sG<|Sy.block ?_
  refine Sy.loopT (Y:=Slc) (nk k1) (λk2 y2=>[(1,.slice R NR cR),(5,y2.v),(6,.int .i64 ((k1:Nat):Int)),(7,.int .i64 ((k2:Nat):Int))]) (λk2 y2=>[]++(y2.bl++[])) (λk2 y2=>y2.Is 5 1 (A5 (m++(BQ nk X Y I k1++(UInt8.ofNat (nk k1)::EK (X k1) (Y k1) (I k1) k2))))) r2 (by rw [show m++(BQ nk X Y I k1++(UInt8.ofNat (nk k1)::EK (X k1) (Y k1) (I k1) 0))=(m++BQ nk X Y I k1)++[UInt8.ofNat (nk k1)] from (List.append_assoc ..).symm,Eb]; exact hr2) ac4 (λw hw=>St.pick (pre:=[(g2,5,#[bv (UInt8.ofNat (nk k1))])]) (M:=[]) [] (by decide) kR hw) (λk2 y2 hk2 hh2=>?_)
  refine Sy.seq<|sC ?_
  refine sP (.int .i64 ((k2:Nat):Int))<|sP (.slice R NR cR)<|sP (.int .i64 ((k1:Nat):Int))<|sS (.pointer (some ⟨gR,oR+k1*1,none⟩)) (Quiet.pure (AJ 25 _ _ _ R gR oR NR cR k1 1 .i64 (hR (by omega)).1 rfl rfl rfl Tryz.underlying25 kF (by omega)))<|sS (.slice (a k1) (nk k1) (ck k1)) (Quiet.thereOne gR (oR+k1*1) 49 _ _ rfl kR (hR (by omega)).2.1 _ (AR ((hR (by omega)).2.2 k1 (by omega)) 0 rfl) Tryz.underlying49 rfl)<|sP (.int .i64 (((nk k1):Nat):Int)) ?_
  obtain ⟨b2,hb2⟩:∃ z:Bool,z=decide (k2<(nk k1)):=⟨_,rfl⟩
  refine sS (.bool b2) (Quiet.pure (AC .lss _ _ _ .i64 _ _ _ rfl rfl rfl (AY _ _ _ _ _ (by rw [hb2]; exact decide_eq_decide.2 (by omega))))) ?_
  refine sG ?_
  cases b2
  ·have lb2:¬ (k2<(nk k1)):=of_decide_eq_false hb2.symm
   refine sU<|Sy.exit<|Sy.then_exit<|Sy.then_exit ?_
   obtain rfl:k2=nk k1:=by omega
   refine Sy.in_exit<|Sy.in_<|Sy.then_<|Sy.region ?_
   refine sP (.int .i64 ((k1:Nat):Int))<|sS (.int .i64 ((k1+1:Nat):Int)) (Quiet.pure (AC .add _ _ _ .i64 _ _ _ rfl rfl rfl (AO _ _ _ _ _ ((AH (by omega) (by omega)).trans (by omega)))))<|sP (.int .i64 ((k1+1:Nat):Int)) ?_
   refine Sy.nil ?_
   exact Sy.againT (y2) (by omega) (hh2) ac3 (λw hw=>hw)
  ·have lb2:k2<(nk k1):=of_decide_eq_true hb2.symm
   refine sT<|Sy.skip<|Sy.then_<|Sy.seq<|Sy.block<|Sy.region ?_
   refine sP (y2.v)<|sP (.slice R NR cR)<|sP (.int .i64 ((k1:Nat):Int))<|sS (.pointer (some ⟨gR,oR+k1*1,none⟩)) (Quiet.pure (AJ 25 _ _ _ R gR oR NR cR k1 1 .i64 (hR (by omega)).1 rfl rfl rfl Tryz.underlying25 kF (by omega)))<|sS (.slice (a k1) (nk k1) (ck k1)) (Quiet.thereOne gR (oR+k1*1) 49 _ _ rfl kR (hR (by omega)).2.1 _ (AR ((hR (by omega)).2.2 k1 (by omega)) 0 rfl) Tryz.underlying49 rfl)<|sP (.int .i64 ((k2:Nat):Int))<|sS (.pointer (some ⟨gK,oK+k2*9,none⟩)) (Quiet.pure (AJ 49 _ _ _ (a k1) gK oK (nk k1) (ck k1) k2 9 .i64 (hT (by omega)).1 rfl rfl rfl Tryz.underlying49 kF (by omega)))<|sS (pv (X k1 k2) (Y k1 k2) (I k1 k2)) (Quiet.there gK (oK+k2*9) 9 52 (pml (X k1 k2) (Y k1 k2) (I k1 k2)) _ _ rfl kR (hT (by omega)).2.1 ((hT (by omega)).2.2 k2 (by omega)) Tryz.underlying52 rfl kR rfl _ rfl) ?_
   refine Sy.callN kR 47 #[pv (X k1 k2) (Y k1 k2) (I k1 k2)] kF ((JB (dec (X k1 k2) (Y k1 k2) (I k1 k2)))) (λw hw=>J3 w _ _ _ (hX _ _) (hY _ _)) (λvq Mq hR0=>?_)
   obtain ⟨q8,sp8,cp8,rfl,hc8,rfl⟩:=hR0
   refine Sy.movT ?_
   refine Sy.appendM kR 24 5 _ _ 1 1 Tryz.underlying24 Iy rfl rfl rfl rfl (by decide) _ _ rfl (ys:=A5 (A3 (dec (X k1 k2) (Y k1 k2) (I k1 k2)))) hh2 kR (Ea _) (Dz _) (some ⟨q8,0,none⟩) 33 cp8 (by rw [B_]; exact (A4 _)) hc8.1 kR (λ_=>From.own (i:=0) (t:=5) (sp:=sp8) kR) (by have hq:=B8 hn64 X Y I _ (Nat.le_of_lt lK); simp only [B_,List.length_append,List.length_cons,List.length_nil,Ck]; omega) (by have hq:=B8 hn64 X Y I _ (Nat.le_of_lt lK); simp only [B_,List.length_append,List.length_cons,List.length_nil,Ck,maxLen]; omega) (λr3 hr3=>?_)
   refine sP (r3.v) ?_
   refine Sy.nil<|Sy.in_<|Sy.then_<|Sy.region ?_
   refine sP (.int .i64 ((k2:Nat):Int))<|sS (.int .i64 ((k2+1:Nat):Int)) (Quiet.pure (AC .add _ _ _ .i64 _ _ _ rfl rfl rfl (AO _ _ _ _ _ ((AH (by omega) (by omega)).trans (by omega)))))<|sP (.int .i64 ((k2+1:Nat):Int)) ?_
   refine Sy.nil ?_
   exact Sy.againT (r3) (by omega) (by rw [show m++(BQ nk X Y I k1++(UInt8.ofNat (nk k1)::EK (X k1) (Y k1) (I k1) (k2+1)))=(m++(BQ nk X Y I k1++(UInt8.ofNat (nk k1)::EK (X k1) (Y k1) (I k1) k2)))++A3 (dec (X k1 k2) (Y k1 k2) (I k1 k2)) by show m++(BQ nk X Y I k1++(UInt8.ofNat (nk k1)::(EK (X k1) (Y k1) (I k1) k2++_)))=_; simp only [List.append_assoc,List.cons_append],Eb]; exact hr3) ac4 (λw hw=>St.pick (pre:=[(q8,5,((A3 (dec (X k1 k2) (Y k1 k2) (I k1 k2))).map bv++sp8).toArray)]) (M:=[]) [] (by decide) kR hw)
end Cu
end
section
namespace Cu
open Go.RowKit Sy
theorem St.pickX {w0:Base} {w:World} {pre A D M N:AE} (is:List Nat) (hn:is.Nodup) (hm:is.map (λi=>pre[i]?)=(M++N).map some) (hw:St w0 w (pre++(A++D))):St w0 w (M++(A++N)) :=
 Sy.St.pick2 (T:=[]) is hn hm (hw.less ((List.Sublist.refl _).append ((List.Sublist.refl _).append (List.nil_sublist _))))
def XtR (l:List UInt8) (j:Nat) (xt:Sh.Tx) (xb:AE):Prop:=∃ q sp,xt.A=some ⟨q,0,none⟩∧xt.l=l∧xb=[(q,5,(l.map bv++sp).toArray)]∧l.length=Bg j∧Bg j≤xt.c∧xt.c≤9223372036854775807
section
variable {l:List UInt8} {j:Nat} {xt:Sh.Tx} {xb:AE} {w0:Base} {w:World} {L:AE}
theorem Ol:∀ j,Bg j≤33
 | 0=>by decide
 | _+1=>Nat.le_refl _
theorem XtR.src (h:XtR l j xt xb) (hw:St w0 w L) (hb:∀ b∈xb,b∈L):Sh.Src w xt.A l:=by
 obtain ⟨q,sp,h1,_,h2,_⟩:=h
 rw [h1]
 exact D5 (hw.blk _ _ _ (hb _ (by rw [h2]; exact List.mem_singleton.2 rfl))).2
theorem XtR.len (h:XtR l j xt xb):l.length=Bg j∧Bg j≤xt.c∧xt.c≤9223372036854775807:=by
 obtain ⟨_,_,_,_,_,h⟩:=h
 exact h
theorem XtR.val (h:XtR l j xt xb):xt.val=.slice xt.A (Bg j) xt.c:=by
 obtain ⟨_,_,_,h0,_,h,_⟩:=h
 unfold Sh.Tx.val
 rw [h0,h]
theorem XtR.ok (h:XtR l j xt xb):∀ w L,St w0 w L→(∀ b∈xb,b∈L)→xt.ok w:=λw L hw hb=>by
 have hs:=h.src hw hb
 obtain ⟨q,sp,h1,h0,h2,h3,h4,h5⟩:=h
 exact ⟨by rw [h0]; exact hs,by rw [h0]; omega,h5⟩
end
def eC (s:Nat→Nat) (bm:List UInt8) (i:Nat) (X Y:Nat→Nat) (I:Nat→Bool) (d:List UInt8) (j:Nat):Nat:=rgC bm (alX s bm i 0 X Y I d j) i j
theorem SC (s:Nat→Nat) (bm:List UInt8) (i:Nat) (X Y:Nat→Nat) (I:Nat→Bool) (d:List UInt8) (j:Nat):eC s bm i X Y I d j<K4:=EV _ _ _ _
def EsR (s:Nat→Nat) (bm:List UInt8) (i:Nat) (X Y:Nat→Nat) (I:Nat→Bool) (d:List UInt8) (k:Nat) (v:Value) (M:AE):Prop:=∃ (y:Slc) (xt:Sh.Tx) (xb:AE),v=.tuple #[y.v,.slice xt.A (Bg k) xt.c]∧M=y.bl++xb∧y.Is 46 4 ((List.range k).map λj=>fws (eC s bm i X Y I d j))∧XtR (alX s bm i 0 X Y I d k) k xt xb
set_option maxHeartbeats 4000000 in
set_option maxRecDepth 100000 in
theorem L0 (w:World) (MA:Option Addr) (bm:List UInt8) (mc:Nat) (hbm:bm.length=32) (hmc:32≤mc) (hmc2:mc≤9223372036854775807) (hms:Sh.Src w MA bm) (i:Nat) (hi:i<256) (KA:Option Addr) (KN kc:Nat) (X Y:Nat→Nat) (I:Nat→Bool) (hX:∀ k,X k<K4) (hY:∀ k,Y k<K4) (hlk:Lst w 9 KA KN (λk=>pml (X k) (Y k) (I k))) (d:List UInt8) (hd:d.length=32) (WA:Option Addr) (WN wc:Nat) (s:Nat→Nat) (hs4:∀ k,s k<K4) (hlw:Lst w 4 WA WN (λk=>fws (s k))) (K:Nat) (hK:K≤256) (hK1:K≤KN) (hK2:K≤WN) (htr:Sh.TabAt w 0):Calls Tryz.prog 24 #[.slice MA 32 mc,.int .i64 ((i:Nat):Int),.slice KA KN kc,.agg (d.map bv).toArray,.slice WA WN wc,.int .i64 ((K:Nat):Int)] w (GetsN w (EsR s bm i X Y I d K)):=by
 obtain ⟨gK,oK,hT⟩:=hlk
 obtain ⟨gS,oS,hS⟩:=hlw
 refine Sy.enter (args:=[.slice MA 32 mc,.int .i64 ((i:Nat):Int),.slice KA KN kc,.agg (d.map bv).toArray,.slice WA WN wc,.int .i64 ((K:Nat):Int)]) Tryz.func24 rfl kL ?_
 refine sC ?_
 refine sM 23 (d.map bv).toArray (λg0=>?_)
 refine sP (.slice none 0 0)<|sP (.slice none 0 0) ?_
 refine sA ?_
 refine sP (.slice none 0 0) ?_
 refine sA ?_
 refine sS (.agg (d.map bv).toArray) (Quiet.load 0 g0 0 32 23 23 (d.map bv).toArray _ _ rfl kR kR Tryz.underlying23 rfl kR _ (A2 d hd) (BF d hd)) ?_
 refine Sy.callN kR 57 #[.agg (d.map bv).toArray] kF ((λvq Mq=>∃ (g:Nat) (sp:List Value) (cap:Nat),vq=.slice (some ⟨g,0,none⟩) 32 cap∧(32≤cap∧cap≤9223372036854775807)∧Mq=[(g,5,(d.map bv++sp).toArray)])) (λw hw=>DA w d hd) (λvq Mq hR0=>?_)
 obtain ⟨qx,spx,cpx,rfl,hcx,rfl⟩:=hR0
 refine sP (.slice (some ⟨qx,0,none⟩) 32 cpx) ?_
 refine sG<|Sy.seq<|sC ?_
 refine sP (.int .i64 0) ?_
 refine sG<|Sy.block ?_
 refine Sy.loopT (Y:=Slc×Sh.Tx×AE) K (λk1 y1=>[(0,.slice MA 32 mc),(1,.int .i64 ((i:Nat):Int)),(2,.slice KA KN kc),(4,.slice WA WN wc),(5,.int .i64 ((K:Nat):Int)),(14,y1.1.v),(15,.slice y1.2.1.A (Bg k1) y1.2.1.c),(16,.int .i64 ((k1:Nat):Int))]) (λk1 y1=>[(g0,23,(d.map bv).toArray)]++(y1.1.bl++y1.2.2)) (λk1 y1=>y1.1.Is 46 4 ((List.range k1).map λj=>fws (eC s bm i X Y I d j))∧XtR (alX s bm i 0 X Y I d k1) k1 y1.2.1 y1.2.2) (nilS,(⟨some ⟨qx,0,none⟩,d,cpx⟩:Sh.Tx),[(qx,5,(d.map bv++spx).toArray)]) ⟨Slc.Is.nil _ _,qx,spx,rfl,rfl,rfl,hd,hcx.1,hcx.2⟩ ac8 (λw hw=>hw) (λk1 y1 hk1 hh1=>?_)
 refine Sy.seq<|sC ?_
 refine sP (.int .i64 ((k1:Nat):Int))<|sP (.int .i64 ((K:Nat):Int)) ?_
 obtain ⟨b1,hb1⟩:∃ z:Bool,z=decide (k1<K):=⟨_,rfl⟩
 refine sS (.bool b1) (Quiet.pure (AC .lss _ _ _ .i64 _ _ _ rfl rfl rfl (AY _ _ _ _ _ (by rw [hb1]; exact decide_eq_decide.2 (by omega))))) ?_
 refine sG ?_
 cases b1
 ·have lb1:¬ (k1<K):=of_decide_eq_false hb1.symm
  refine sU<|Sy.exit<|Sy.then_exit<|Sy.then_exit ?_
  obtain rfl:K=k1:=by omega
  refine Sy.in_exit<|sB ?_
  refine sP (y1.1.v)<|sP (.slice y1.2.1.A (Bg K) y1.2.1.c)<|sP (y1.1.v)<|sP (.slice y1.2.1.A (Bg K) y1.2.1.c) ?_
  refine sG<|Sy.ret ?_
  exact Bb (y1.1.bl++y1.2.2) rfl (v:=y1.1.v) (u:=.slice y1.2.1.A (Bg K) y1.2.1.c) (.inl (show _=_ by kernel_rfl)) (.inl (show _=_ by kernel_rfl)) (λw hw=>hw.less (List.sublist_append_right _ _)) ⟨y1.1,y1.2.1,y1.2.2,rfl,rfl,hh1.1,hh1.2⟩
 ·have lb1:k1<K:=of_decide_eq_true hb1.symm
  refine sT<|Sy.skip<|Sy.then_<|Sy.seq<|Sy.block<|sC ?_
  refine sP (.slice MA 32 mc)<|sP (.slice y1.2.1.A (Bg k1) y1.2.1.c)<|sP (.int .i64 ((i:Nat):Int))<|sP (.int .i64 ((k1:Nat):Int))<|sS (fv (eC s bm i X Y I d k1)) (qG 50 #[.slice MA 32 mc,.slice y1.2.1.A (Bg k1) y1.2.1.c,.int .i64 ((i:Nat):Int),.int .i64 ((k1:Nat):Int)] (λw hw=>MN w MA bm mc hbm hmc hmc2 (hms.below hw.below) y1.2.1.A _ (Bg k1) y1.2.1.c hh1.2.len.1 (by have:=Ol k1; omega) hh1.2.len.2.1 hh1.2.len.2.2 (hh1.2.src hw (λb hb=>List.mem_append.2 (.inr (List.mem_append.2 (.inr hb))))) i k1 (by omega) (by omega) (htr.below hw.below htr.lt))) ?_
  refine sM 46 (fcs 0) (λg1=>?_)
  refine Sy.movT ?_
  refine sW 1 g1 46 (fcs 0) (fcs (eC s bm i X Y I d k1)) (wS 0 46 (fcs (eC s bm i X Y I d k1)) rfl) ?_
  refine Sy.setT ?_
  refine sA ?_
  refine sP (y1.1.v)<|sS (fv (eC s bm i X Y I d k1)) (qL 1 g1 0 4 46 46 (fcs (eC s bm i X Y I d k1)) rfl Tryz.underlying46) ?_
  refine Sy.make kR 46 (fcs (eC s bm i X Y I d k1)) (λg=>.slice (some ⟨g,0,none⟩) 1 1) kF (λg2=>?_)
  refine Sy.movT ?_
  refine Sy.appendR kR 55 46 _ _ 4 32 Tryz.underlying55 Ix rfl rfl rfl rfl (by decide) _ _ rfl hh1.1 kR (fws (eC s bm i X Y I d k1)) rfl (Dc _) 2 g2 46 kR kR (by rw [List.length_map,List.length_range]; omega) (by rw [List.length_map,List.length_range]; simp only [maxLen]; omega) (λr1 hr1=>?_)
  refine sP (r1.v) ?_
  refine sG ?_
  refine Sy.regionD (λj=>false) kR ?_
  refine sZ 0 rfl (.slice WA WN wc)<|sZ 1 rfl (.int .i64 ((k1:Nat):Int))<|sD 2 rfl (.pointer (some ⟨gS,oS+k1*4,none⟩)) (Quiet.pure (AJ 55 _ _ _ WA gS oS WN wc k1 4 .i64 (hS (by omega)).1 rfl rfl rfl Tryz.underlying55 kF (by omega)))<|sD 3 rfl (fv (s k1)) (Quiet.there gS (oS+k1*4) 4 46 (fws (s k1)) _ _ rfl kR (hS (by omega)).2.1 ((hS (by omega)).2.2 k1 (by omega)) Tryz.underlying46 rfl kR rfl _ rfl)<|sD 4 rfl (fv (eC s bm i X Y I d k1)) (qL 1 g1 0 4 46 46 (fcs (eC s bm i X Y I d k1)) rfl Tryz.underlying46)<|sZ 5 rfl (.slice KA KN kc)<|sZ 6 rfl (.int .i64 ((k1:Nat):Int))<|sD 7 rfl (.pointer (some ⟨gK,oK+k1*9,none⟩)) (Quiet.pure (AJ 49 _ _ _ KA gK oK KN kc k1 9 .i64 (hT (by omega)).1 rfl rfl rfl Tryz.underlying49 kF (by omega))) ?_
  refine sD 8 rfl (pv (X k1) (Y k1) (I k1)) (Quiet.there gK (oK+k1*9) 9 52 (pml (X k1) (Y k1) (I k1)) _ _ rfl kR (hT (by omega)).2.1 ((hT (by omega)).2.2 k1 (by omega)) Tryz.underlying52 rfl kR rfl _ rfl) ?_
  refine Sy.callND 9 rfl kR kR 49 #[fv (s k1),fv (eC s bm i X Y I d k1),pv (X k1) (Y k1) (I k1)] kF ((JB (rPt (s k1) (eC s bm i X Y I d k1) (X k1) (Y k1) (I k1)))) (λw hw=>Ml w _ _ _ _ _ (hs4 _) (SC _ _ _ _ _ _ _ _) (hX _) (hY _)) (λvq Mq hR0=>?_)
  obtain ⟨q8,sp8,cp8,rfl,hc8,rfl⟩:=hR0
  refine Sy.movTD ?_
  refine sZ 10 rfl (.slice (some ⟨q8,0,none⟩) 33 cp8) ?_
  refine sE ?_
  refine Sy.in_<|Sy.then_<|Sy.region ?_
  refine sP (.int .i64 ((k1:Nat):Int))<|sS (.int .i64 ((k1+1:Nat):Int)) (Quiet.pure (AC .add _ _ _ .i64 _ _ _ rfl rfl rfl (AO _ _ _ _ _ ((AH (by omega) (by omega)).trans (by omega)))))<|sP (.int .i64 ((k1+1:Nat):Int)) ?_
  refine Sy.nil ?_
  exact Sy.againT ((r1,(⟨some ⟨q8,0,none⟩,A3 (rPt (s k1) (eC s bm i X Y I d k1) (X k1) (Y k1) (I k1)),cp8⟩:Sh.Tx),[(q8,5,((A3 (rPt (s k1) (eC s bm i X Y I d k1) (X k1) (Y k1) (I k1))).map bv++sp8).toArray)])) (by omega) (⟨by rw [List.range_succ,List.map_append]; exact hr1,by rw [EE]; exact ⟨q8,sp8,rfl,rfl,rfl,A4 _,hc8.1,hc8.2⟩⟩) ac8 (λw hw=>St.pickX (pre:=[(g0,23,(d.map bv).toArray),(g1,46,(fcs (eC s bm i X Y I d k1))),(g2,46,(fcs (eC s bm i X Y I d k1))),(q8,5,((A3 (rPt (s k1) (eC s bm i X Y I d k1) (X k1) (Y k1) (I k1))).map bv++sp8).toArray)]) (M:=[(g0,23,(d.map bv).toArray)]) (N:=[(q8,5,((A3 (rPt (s k1) (eC s bm i X Y I d k1) (X k1) (Y k1) (I k1))).map bv++sp8).toArray)]) [0,3] (by decide) kR hw)
end Cu
end
section
namespace Cu
open Go.RowKit Sy
section
variable (s v:Nat→Nat→Nat) (sn vn:Nat→Nat)
end
section
variable {s v:Nat→Nat→Nat} {sn vn:Nat→Nat} {d d2:List UInt8} {NW NV:Nat}
end
end Cu
end
section
namespace Sy
open Go.RowKit
section
variable {L M:AE} {w0:Base} {w:World}
theorem flat_perm {ls ms:List AE} (is:List Nat) (hi:is.isPerm (List.range ls.length)=true) (hm:is.map (λi=>ls[i]?)=ms.map some) (hL:L=ls.flatten) (hM:M=ms.flatten):L.Perm M:=by
 rw [hL,hM]
 exact (Ij is hi hm).flatten
theorem St.parts {ls ms:List AE} (os:List AE) (is:List Nat) (hi:is.isPerm (List.range ls.length)=true) (hm:is.map (λi=>ls[i]?)=(ms++os).map some) (hL:L=ls.flatten) (hM:M=ms.flatten) (hw:St w0 w L):St w0 w M:=by
 have h1:L.Perm (M++os.flatten):=by
  rw [hL,hM, ← List.flatten_append]
  exact (Ij is hi hm).flatten
 exact (hw.perm h1).less (List.sublist_append_left _ _)
end
section
variable {f:Nat→List Value} {s m k o:Nat} {sp:List Value}
theorem En (h:∀ j,(f j).length=s) (hk:k<m) (ho:o=0+k*s):Value.agg (((AV f m++sp).toArray.toList.drop o).take s).toArray=.agg (f k).toArray:=by
 show Value.agg (((AV f m++sp).drop o).take s).toArray=_
 rw [show o=k*s by omega,Cw hk,List.append_assoc,List.drop_append_of_le_length (by rw [As h]; exact Nat.le_refl _),List.drop_of_length_le (by rw [As h]; exact Nat.le_refl _),List.nil_append,List.append_assoc,List.take_left' (h k)]
end
section
variable {r:Nat→Slc} {n i:Nat} {pre M R D E:AE} {b:Nat×TypeId×Array Value} {v:Value} {w0:Base} {w:World}
theorem end_front:((pre++R)++D).Perm (pre++(D++R)):=by
 rw [List.append_assoc]
 exact List.perm_append_comm.append_left pre
theorem end_front2:((pre++R)++(D++E)).Perm (pre++(D++(E++R))):=by
 rw [← List.append_assoc D]
 exact end_front
end
end Sy
end
section
namespace Cu
open Go.RowKit Sy
section
variable {d z:List UInt8} {u x:Value}
end
theorem TxsIs.own {w0:Base} {e:TypeId} {g:Nat} {t:Sh.Tx} {v:Value} (T':AE) (hv:t.val=v) (hok:∀ w L,St w0 w L→(∀ b∈T',b∈L)→t.ok w):TxsIs w0 e ⟨.slice (some ⟨g,0,none⟩) 1 1,[(g,e,#[v])]⟩ T' [t]:=by
 subst hv
 refine ⟨Slc.Is.mk' (cs:=[t.val]) (λx hx=>?_) (λx hx u hu=>?_) rfl rfl rfl (Nat.le_refl _) (by decide),λw L hw hT x hx=>?_⟩
 ·rw [List.mem_singleton.1 hx]; rfl
 ·rw [List.mem_singleton.1 hx] at hu
  rw [List.mem_singleton.1 hu]; rfl
 ·rw [List.mem_singleton.1 hx]; exact hok w L hw hT
theorem XtR.li {l:List UInt8} {j:Nat} {xt:Sh.Tx} {xb:AE} (h:XtR l j xt xb):xt.l=l:=by
 obtain ⟨_,_,_,h0,_⟩:=h
 exact h0
end Cu
end
section
namespace Cu
open Go.RowKit Sy
theorem Ni (k e x:Nat) {px py:Nat} {pi:Bool} (hd:dec px py pi=evP x):rPt (Sc.subP k (Sc.mulP e x)) e px py pi=evP k:=by
 have oB:Ec.On bP:=bP_on
 have oX:Ec.On (evP x):=K_ x
 unfold rPt
 rw [hd,E9 oB,E9 oX]
 have e1:Ec.nm Ac (Sc.subP k (Sc.mulP e x)) bP=Ec.add Ac (Ec.nm Ac k bP) (Ec.neg (Ec.nm Ac e (evP x))):=by
  unfold Sc.subP
  rw [E9 oB,Ec.nm_add fld oB]
  have e2:Ec.nm Ac (Sc.pM - Sc.mulP e x%Sc.pM) bP=Ec.nm Ac (Sc.negP (Sc.mulP e x)%Sc.pM) bP:=by
   unfold Sc.negP
   rw [E9 oB,E9 oB]
  rw [e2,PU oB,E9 oB]
  unfold Sc.mulP evP
  rw [E9 oB,Ec.nm_mul fld oB,E9 oB]
 rw [e1]
 have o1:=oX.nm fld e
 rw [Ec.assoc fld (oB.nm fld k) o1.neg o1,Ec.neg_add,Ec.add_zero]
 unfold evP
 rw [E9 oB]
theorem Nx {x px py:Nat} {pi:Bool} (h:Bq x px py pi=true):dec px py pi=evP x:=by
 unfold Bq Cn at h
 rw [Bool.and_eq_true,Bool.and_eq_true,decide_eq_true_iff,decide_eq_true_iff,beq_iff_eq] at h
 rw [← h.1, ← h.2.1, ← h.2.2]
 exact CF (K_ x)
section
variable {s s':Nat→Nat} {bm x:List UInt8} {i:Nat} {X Y:Nat→Nat} {I:Nat→Bool}
theorem FQ {f:Nat}:∀ k,(∀ j,j<k→s (f+j)=s' (f+j))→alX s bm i f X Y I x k=alX s' bm i f X Y I x k
 | 0,_=>rfl
 | k+1,h=>by
  show A3 (rPt (s (f+k)) (rgC bm (alX s bm i f X Y I x k) i (f+k)) (X (f+k)) (Y (f+k)) (I (f+k)))=A3 (rPt (s' (f+k)) (rgC bm (alX s' bm i f X Y I x k) i (f+k)) (X (f+k)) (Y (f+k)) (I (f+k)))
  rw [FQ k (λj hj=>h j (by omega)),h k (Nat.lt_succ_self k)]
theorem MC (f:Nat):∀ k,alX s bm i 0 X Y I x (f+k)=alX s bm i f X Y I (alX s bm i 0 X Y I x f) k
 | 0=>rfl
 | k+1=>by
  rw [← Nat.add_assoc,EE,MC f k]
  rfl
end
section
variable {bm sd:List UInt8} {X Y:Nat→Nat→Nat} {I:Nat→Nat→Bool} {at_ nk sx:Nat→Nat} {d:List UInt8}
theorem NN {i j:Nat} (h:j≠at_ i):sgS bm sd X Y I at_ sx d i j=rgF bm sd i j:=if_neg h
theorem Qi (i:Nat):sgS bm sd X Y I at_ sx d i (at_ i)=Sc.subP (rgN bm sd i) (Sc.mulP (sgE bm sd X Y I at_ d i) (sx i)):=if_pos rfl
theorem O4 (i j:Nat):sgS bm sd X Y I at_ sx d i j%Sc.pM=sgS bm sd X Y I at_ sx d i j:=by
 unfold sgS
 split
 ·exact Nat.mod_mod _ _
 ·exact Nat.mod_mod _ _
theorem NM (i:Nat):alX (sgS bm sd X Y I at_ sx d i) bm i 0 (X i) (Y i) (I i) d (at_ i)=alX (rgF bm sd i) bm i 0 (X i) (Y i) (I i) d (at_ i) :=
 FQ _ λj hj=>NN (by omega)
theorem MP {i:Nat} (h:Bq (sx i) (X i (at_ i)) (Y i (at_ i)) (I i (at_ i))=true):alX (sgS bm sd X Y I at_ sx d i) bm i 0 (X i) (Y i) (I i) d (at_ i+1)=sgX bm sd i:=by
 rw [EE,NM,Qi]
 show A3 (rPt (Sc.subP (rgN bm sd i) (Sc.mulP (sgE bm sd X Y I at_ d i) (sx i))) (sgE bm sd X Y I at_ d i) _ _ _)=A3 _
 rw [Ni _ _ _ (Nx h)]
theorem NL {i:Nat} (ha:at_ i<nk i) (h:Bq (sx i) (X i (at_ i)) (Y i (at_ i)) (I i (at_ i))=true):alX (sgS bm sd X Y I at_ sx d i) bm i 0 (X i) (Y i) (I i) d (nk i)=sgL bm sd X Y I at_ nk i:=by
 have e:nk i=at_ i+1+(nk i - (at_ i+1)):=by omega
 rw [e,MC,MP h]
 unfold sgL
 exact FQ _ λj hj=>NN (by omega)
theorem Lc:∀ k,(∀ i,i<k→at_ i<nk i∧Bq (sx i) (X i (at_ i)) (Y i (at_ i)) (I i (at_ i))=true)→DJ (sgS bm sd X Y I at_ sx d) bm X Y I d nk k=ET bm sd X Y I at_ nk k
 | 0,_=>rfl
 | k+1,h=>by
  show DJ _ bm X Y I d nk k++alX _ bm k 0 _ _ _ d (nk k)=ET bm sd X Y I at_ nk k++sgL bm sd X Y I at_ nk k
  rw [Lc k (λi hi=>h i (by omega)),NL (h k (Nat.lt_succ_self k)).1 (h k (Nat.lt_succ_self k)).2]
theorem OZ {NR:Nat} {sn:Nat→Nat} (hs:∀ i,i<NR→sn i=nk i) (h:∀ i,i<NR→at_ i<nk i∧Bq (sx i) (X i (at_ i)) (Y i (at_ i)) (I i (at_ i))=true):chB (sgS bm sd X Y I at_ sx (sgD bm sd X Y I at_ nk NR)) bm X Y I (sgD bm sd X Y I at_ nk NR) NR NR sn nk=true :=
 I2 rfl (λi hi=>E6 (hs i hi) λj _=>O4 i j) (by rw [Lc NR h]; rfl)
end
end Cu
end
section
namespace Cu
open Go.RowKit Sy
def aX (_ _:Nat):Nat:=gx.val
def aY (_ _:Nat):Nat:=gy.val
def aI (_ _:Nat):Bool:=false
def a1 (_:Nat):Nat:=1
def aAt (_:Nat):Int:=0
theorem RG:evP 1=bP:=by
 unfold evP
 rw [E9 bP_on]
 show Ec.add Ac none bP=bP
 rw [Ec.zero_add]
theorem ME:Bp 1 a1 aX aY aI=true:=by
 unfold Bp
 rw [show szB 1 a1=true from (Fn 1 a1).2 ⟨Nat.le_refl _,by decide,λj _=>⟨Nat.le_refl _,by show 1≤64; decide⟩⟩,Bool.true_and]
 have h:Am gx.val gy.val false=true:=IZ (P:=bP) bP_on
 simp [Ed,EJ,a1,aX,aY,aI,h]
theorem Ok:Bq 1 gx.val gy.val false=true:=by
 unfold Bq
 rw [RG]
 exact KV gx.val gy.val false
theorem SL:Di aAt a1 a1 aX aY aI 1 1=true :=
 Jy rfl λj _=>by
  have q:=K8 (At:=aAt) (sx:=a1) (n:=a1) (X:=aX) (Y:=aY) (I:=aI) (k:=j) (q:=0) (by show ¬ (0:Int)<0; decide) (by show ¬ (0:Int) ≥ ((1:Nat):Int); decide) rfl
  rw [q]
  exact Ok
def RZ (v:Value) (M:AE):Prop:=∃ (d:List UInt8) (s:Nat→Nat→Nat) (g:Nat) (r:Nat→Slc),v=.tuple #[Ar d (some ⟨g,0,none⟩) 1 1,.int .i64 0]∧M=(g,55,Aj r 1)::BK r 1∧d.length=32∧(∀ i k,s i k<K4)∧RowsAre r 46 4 (λi j=>fws (s i j)) (B1 a1 1 0)∧vfB [] 1 a1 aX aY aI s d 1 a1=true
theorem RR {sd:List UInt8} {v:Value} {M:AE} (h:SM (Bp 1 a1 aX aY aI) (Di aAt a1 a1 aX aY aI 1 1) (sgD (rgM [] 1 a1 aX aY aI) sd aX aY aI (λi=>(aAt i).toNat) a1 1) (sgF (rgM [] 1 a1 aX aY aI) sd aX aY aI (λi=>(aAt i).toNat) a1 (sgD (rgM [] 1 a1 aX aY aI) sd aX aY aI (λi=>(aAt i).toNat) a1 1)) a1 1 v M):RZ v M:=by
 obtain ⟨bm,hbm⟩:∃ l,l=rgM [] 1 a1 aX aY aI:=⟨_,rfl⟩
 rw [← hbm] at h
 rcases h with ⟨h,_⟩ | ⟨_,h,_⟩ | ⟨_,_,u,rfl,g,r,rfl,rfl,hr⟩
 ·rw [ME] at h; cases h
 ·rw [SL] at h; cases h
 ·refine ⟨_,sgS bm sd aX aY aI (λi=>(aAt i).toNat) a1 (sgD bm sd aX aY aI (λi=>(aAt i).toNat) a1 1),g,r,rfl,rfl,IU _,λ_ _=>Qh _ _,hr,?_⟩
  unfold vfB
  rw [ME, ← hbm,Bool.true_and]
  exact OZ (λ_ _=>rfl) (λi _=>⟨by show (0:Nat)<1; decide,Ok⟩)
theorem D9 {w:World} {g s:Nat} {t:TypeId} {cs:Array Value} {f:Nat→List Value} (hb:Blk w g t cs) (hf:cs.toList=f 0):Lst w s (some ⟨g,0,none⟩) 1 f:=⟨g,0,λ_=>⟨rfl,hb.lt,λj hj=>by
 obtain rfl:j=0:=by omega
 rw [Nat.zero_mul]
 refine Bz hb ?_
 rw [List.drop_zero,hf,List.take_of_length_le (Nat.le_refl _)]⟩⟩
theorem LM {w:World} {g0 g1 g2:Nat} {t0 t1 t2:TypeId} (h0:Blk w g0 t0 (pcs gx.val gy.val false)) (h1:Blk w g1 t1 #[.slice (some ⟨g0,0,none⟩) 1 1]) (h2:Blk w g2 t2 (Ai ((0:Nat):Int) 1).toArray) (ht:Sh.TabAt w 1) :
  Calls Tryz.prog 12 #[.agg ((List.replicate 32 (0:UInt8)).map bv).toArray,.slice none 0 0,.slice (some ⟨g1,0,none⟩) 1 1,.slice (some ⟨g2,0,none⟩) 1 1] w (GetsN w RZ):=by
 have q:=M' w (List.replicate 32 0) List.length_replicate none [] 0 0 rfl (by decide) (by decide) (by decide) (λh=>absurd rfl h) (some ⟨g1,0,none⟩) 1 1 (λ_=>some ⟨g0,0,none⟩) a1 a1 aX aY aI (λ_ _=>lt4 _) (λ_ _=>lt4 _) (by decide) (λ_=>by show 1≤_; decide) (D9 h1 rfl) (λi _=>D9 h0 rfl) (by decide) (some ⟨g2,0,none⟩) 1 1 aAt a1 (λ_=>by show 1<K4; decide) (by decide) (D9 h2 rfl) ht
 exact Calls.mono q λe w' ⟨v,M,h1,h2,h3⟩=>⟨v,M,h1,RR h2,h3⟩
theorem I8 {w:World} {g0 g1 gF:Nat} {t0 t1 tF:TypeId} {d:List UInt8} {s:Nat→Nat→Nat} {r:Nat→Slc} {A:Option Addr} {k:Nat} (h0:Blk w g0 t0 (pcs gx.val gy.val false)) (h1:Blk w g1 t1 #[.slice (some ⟨g0,0,none⟩) 1 1]) (hF:Blk w gF tF (Aj r 1)) (hd:d.length=32) (hs:∀ i k,s i k<K4) (hv:(r 0).v=.slice A 1 k) (hl:Lst w 4 A 1 (λj=>fws (s 0 j))) (hc:vfB [] 1 a1 aX aY aI s d 1 a1=true) (ht:Sh.TabAt w 1) :
  Calls Tryz.prog 18 #[.slice none 0 0,.slice (some ⟨g1,0,none⟩) 1 1,Ar d (some ⟨gF,0,none⟩) 1 1] w (Gets w (.bool true)):=by
 have q:=Ff w none [] 0 0 rfl (by decide) (by decide) (by decide) (λh=>absurd rfl h) (some ⟨g1,0,none⟩) 1 1 (λ_=>some ⟨g0,0,none⟩) a1 a1 aX aY aI (λ_ _=>lt4 _) (λ_ _=>lt4 _) (by decide) (λ_=>by show 1≤_; decide) (D9 h1 rfl) (λi _=>D9 h0 rfl) (by decide) d hd (some ⟨gF,0,none⟩) 1 1 (λ_=>A) a1 (λ_=>k) s hs (by decide) (λ_ _=>by show 1≤_; decide) (D9 hF (by
  show AV (λj=>[(r j).v]) 1=[.slice A 1 k]
  rw [← hv]
  rfl)) (λi hi=>by
  obtain rfl:i=0:=by omega
  exact hl) ht
 rw [hc] at q
 exact q
set_option maxHeartbeats 4000000 in
set_option maxRecDepth 100000 in
theorem RS (w:World) (ht:Sh.TabAt w 1):Calls Tryz.prog 14 #[] w (Gets w (.bool true)):=by
 refine Sy.enter (args:=[]) Tryz.func14 rfl kL ?_
 refine sC ?_
 refine sP (.bool false) ?_
 refine sA ?_
 refine sS (pv gx.val gy.val false) (qF 23 #[] (I5)) ?_
 refine Sy.make kR 52 (pcs gx.val gy.val false) (λg=>.slice (some ⟨g,0,none⟩) 1 1) kF (λg0=>?_)
 refine Sy.make kR 49 #[.slice (some ⟨g0,0,none⟩) 1 1] (λg=>.slice (some ⟨g,0,none⟩) 1 1) kF (λg1=>?_)
 refine sP (.slice (some ⟨g1,0,none⟩) 1 1) ?_
 refine sA ?_
 refine sP (.agg ((List.replicate 32 (0:UInt8)).map bv).toArray)<|sP (.slice (some ⟨g1,0,none⟩) 1 1)<|sP (fv 1)<|sP (.agg (Ai ((0:Nat):Int) 1).toArray) ?_
 refine Sy.make kR 48 (Ai ((0:Nat):Int) 1).toArray (λg=>.slice (some ⟨g,0,none⟩) 1 1) kF (λg2=>?_)
 refine Sy.callN kR 12 #[.agg ((List.replicate 32 (0:UInt8)).map bv).toArray,.slice none 0 0,.slice (some ⟨g1,0,none⟩) 1 1,.slice (some ⟨g2,0,none⟩) 1 1] kF (RZ) (λw hw=>LM (hw.get (i:=0) rfl) (hw.get (i:=1) rfl) (hw.get (i:=2) rfl) (ht.below hw.below ht.lt)) (λvq Mq hR0=>?_)
 obtain ⟨d0,s0,gF,r0,rfl,rfl,hdl,hs4,hr0,hvf⟩:=hR0
 obtain ⟨A0,k0,hv0,_,_,hl0⟩:=hr0.lst (i:=0) (N:=1) (m:=1) rfl (by decide)
 refine Sy.permS (M:=[(g0,52,(pcs gx.val gy.val false)),(g1,49,#[.slice (some ⟨g0,0,none⟩) 1 1]),(g2,48,(Ai ((0:Nat):Int) 1).toArray),(gF,55,(Aj r0 1))]++(BK r0 1++[])) (by rw [List.append_nil]; exact List.Perm.refl _) ?_
 refine sP (.tuple #[Ar d0 (some ⟨gF,0,none⟩) 1 1,.int .i64 0])<|sP (Ar d0 (some ⟨gF,0,none⟩) 1 1)<|sP (.int .i64 0) ?_
 refine sM 31 (AK (List.replicate 32 (0:UInt8)) none 0 0).toArray (λg3=>?_)
 refine Sy.movT ?_
 refine sW 4 g3 31 (AK (List.replicate 32 (0:UInt8)) none 0 0).toArray (AK d0 (some ⟨gF,0,none⟩) 1 1).toArray (Writes.row 31 (AK d0 (some ⟨gF,0,none⟩) 1 1) 33 _ _ rfl kR kR kR (BJ hdl) (by rw [List.size_toArray,BJ List.length_replicate]) E4) ?_
 refine Sy.setT ?_
 refine sP (.int .i64 0) ?_
 refine sA ?_
 refine sP (.int .i64 0)<|sP (.bool true)<|sP (.bool true)<|sP (.pointer (some ⟨g3,32,none⟩))<|sS (.slice (some ⟨gF,0,none⟩) 1 1) (Quiet.cell 4 g3 32 31 29 (AK d0 (some ⟨gF,0,none⟩) 1 1).toArray _ _ rfl kR kR Tryz.underlying29 rfl _ (Cb hdl))<|sP (.int .i64 1)<|sP (.bool true)<|sP (.bool true) ?_
 refine sP (.bool true)<|sP (.slice (some ⟨g1,0,none⟩) 1 1)<|sS (Ar d0 (some ⟨gF,0,none⟩) 1 1) (Quiet.load 4 g3 0 33 31 31 (AK d0 (some ⟨gF,0,none⟩) 1 1).toArray _ _ rfl kR kR Tryz.underlying31 rfl kR _ (CG hdl) (DQ hdl))<|sS (.bool true) (qG 18 #[.slice none 0 0,.slice (some ⟨g1,0,none⟩) 1 1,Ar d0 (some ⟨gF,0,none⟩) 1 1] (λw hw=>I8 (hw.get (i:=0) rfl) (hw.get (i:=1) rfl) (hw.get (i:=3) rfl) hdl hs4 hv0 (hl0 hw (λb hb=>List.mem_append.2 (.inr (List.mem_append.2 (.inl hb))))) hvf (ht.below hw.below ht.lt)))<|sP (.bool true)<|sP (.bool true) ?_
 refine sG<|Sy.ret ?_
 exact rV (.bool true) rfl
end Cu
end
section
namespace Cu
open Go.RowKit Sy
def slA:Value→Option Addr
 | .slice A _ _=>A
 | _=>none
def slC:Value→Nat
 | .slice _ _ c=>c
 | _=>0
section
variable {w0:Base} {br bf:Bool} {d:List UInt8} {s:Nat→Nat→Nat} {nk:Nat→Nat} {NR:Nat} {v:Value} {M:AE}
end
def csl (sd:List UInt8) (us:List Value):List Value:=sd.map bv++us
def csv (sd:List UInt8) (us:List Value):Value:=.agg (csl sd us).toArray
section
variable {sd:List UInt8} {us:List Value}
theorem Fd (h:sd.length=32) (k:Nat):(csl sd us).toArray[32+k]? = us[k]?:=by
 rw [List.getElem?_toArray]
 unfold csl
 rw [List.getElem?_append_right (by rw [List.length_map,h]; exact Nat.le_add_right _ _),List.length_map,h,Nat.add_sub_cancel_left]
theorem J8 (h:sd.length=32):Value.agg (((csl sd us).toArray.toList.drop 0).take 32).toArray=.agg (sd.map bv).toArray:=by
 show Value.agg (((csl sd us).drop 0).take 32).toArray=_
 rw [List.drop_zero]
 unfold csl
 rw [List.take_left' (by rw [List.length_map,h])]
theorem L5 (h:sd.length=32):0+32≤(csl sd us).toArray.size:=by rw [List.size_toArray]; unfold csl; rw [List.length_append,List.length_map,h]; omega
end
end Cu
end
section
namespace Cu
open Go.ChangeShapes Go.WideShapes Go.ChangeAt Go.RowKit Sy Go.Deep
theorem KD {H:Type}:∀ {l:List (DataW H)} {d:DataW H},d∈l→Rows.uptoBulk d≤Rows.uptoBulkAll l
 | [],_,h=>by cases h
 | d'::r,d,h=>by
  simp only [Rows.uptoBulkAll]
  cases List.mem_cons.1 h with
  | inl e=>subst e; omega
  | inr h=>have:=KD h; omega
theorem CU {α:Type} [Inhabited α] (cells:α→List Value) (ok:α→Prop) (sz:α→Nat) (s:Nat) (hs:0<s) (hc:∀ x,(cells x).length=s) (h0:ok default) (h1:sz default=0) {H:Type} {enc:TypeId×Value→H} {P:Program} {W:World} {t e:TypeId} {fuel:Nat} {cs:List Value} {x:DataW H×List MemPlace}
  (ht:P.underlying t=some (.slice e)) (hce:P.cellsOf e=s) (hel:∀ (fuel:Nat) (cs:List Value) (x:DataW H×List MemPlace),cs.length=s→DataW.trod enc P W 0 (λ_=>true) true fuel e cs=some x→∃ y,ok y∧cs=cells y∧sz y≤Rows.uptoBulk x.1)
  (hf:DataW.trod enc P W 0 (λ_=>true) true fuel t cs=some x) :
  ∃ (A:Option Addr) (m c:Nat) (T:Nat→α),cs=[.slice A m c]∧m≤c∧c≤9223372036854775807∧(∀ j,ok (T j))∧(∀ j,sz (T j)≤Rows.uptoBulk x.1)∧Lst W s A m (λj=>cells (T j))∧m≤Rows.uptoBulk x.1:=by
 rcases open_slice ht hf with ⟨hcs,hx⟩ | ⟨a,len,cap,m,n,D,Pl,hcs,_,hl,hm,hme,hx,hall⟩
 ·exact ⟨none,0,0,λ_=>default,hcs,Nat.le_refl _,by omega,λ_=>h0,λ_=>by rw [h1]; exact Nat.zero_le _,It λhn=>absurd hn (Nat.lt_irrefl _),Nat.zero_le _⟩
 ·simp only [if_true] at hme
  subst hme
  rw [hce] at hall
  have hb:∀ i,i<len→Rows.uptoBulk (D i)≤Rows.uptoBulk x.1:=λi hi=>by
   subst hx
   have:=KD (l:=(List.range len).map D) (d:=D i) (List.mem_map.2 ⟨i,List.mem_range.2 hi,rfl⟩)
   simp only [Rows.uptoBulk]
   omega
  obtain ⟨X,hX0,hX⟩:=LF (α:=α) (n:=len) (p:=λi y=>(ok y∧sz y≤Rows.uptoBulk x.1)∧W.cells? 0 (a.add (i*s)) s=some (cells y)) (λi hi=>by
   obtain ⟨cs',h1,h2⟩:=hall i (by omega)
   obtain ⟨y,hy,rfl,hz⟩:=hel _ _ _ (LG h1) h2
   exact ⟨y,⟨hy,Nat.le_trans hz (hb i hi)⟩,h1⟩) (λy=>ok y∧sz y≤Rows.uptoBulk x.1) ⟨h0,by rw [h1]; exact Nat.zero_le _⟩ (λ_ _ hp=>hp.1)
  refine ⟨some a,len,m,X,hcs,hl,by simpa [maxLen] using hm,λj=>(hX0 j).1,λj=>(hX0 j).2,It λhpos=>?_,?_⟩
  ·obtain ⟨_,hc0⟩:=hX 0 hpos
   obtain ⟨v0,hv0⟩:∃ v0,(cells (X 0))[0]? = some v0:=⟨(cells (X 0))[0]'(by rw [hc]; exact hs),List.getElem?_eq_getElem _⟩
   have hcell:W.cell? a=some v0:=by
    have:=Fe hc0 0 v0 hv0
    simpa [Addr.add] using this
   obtain ⟨b,o,rfl,hlt⟩:=LH hcell
   refine ⟨b,o,rfl,hlt,λj hj i v hi=>?_⟩
   have:=Fe (hX j hj).2 i v hi
   rwa [KL,KL] at this
  ·subst hx
   have:=KE ((List.range len).map D)
   simp only [Rows.uptoBulk]
   simp only [List.length_map,List.length_range] at this
   omega
theorem Qy {H:Type} {enc:TypeId×Value→H} {P:Program} {W:World} {fuel:Nat} {t:TypeId} {cs:List Value} {x:DataW H×List MemPlace} (ht:P.underlying t=some (.int .u8)) (hf:DataW.trod enc P W 0 (λ_=>true) true fuel t cs=some x):∃ u:UInt8,cs=[bv u]:=by
 cases fuel with
 | zero=>simp [DataW.trod] at hf
 | succ m =>
  obtain ⟨z,e,_,w⟩:=DataW.trod_int ht hf
  refine ⟨UInt8.ofNat z.toNat,?_⟩
  have hz:0≤z∧z<256:=by
   simp [Lit.wf,IntKind.bits,IntKind.signed,IntKind.min,IntKind.max] at w
   omega
  rw [e]
  unfold bv
  congr 2
  rw [UInt8.toNat_ofNat']
  omega
set_option maxRecDepth 100000 in
theorem Kk {H:Type} {enc:TypeId×Value→H} {W:World} {fuel:Nat} {cs:List Value} {x:DataW H×List MemPlace} (hf:DataW.trod enc Tryz.prog W 0 (λ_=>true) true fuel 24 cs=some x) :
  ∃ (A:Option Addr) (m:List UInt8) (c:Nat),cs=[.slice A m.length c]∧m.length≤c∧c≤9223372036854775807∧Sh.Src W A m∧m.length≤Rows.uptoBulk x.1:=by
 obtain ⟨A,n,c,T,e,h1,h2,_,_,hls,hn⟩:=CU (P:=Tryz.prog) (λu:UInt8=>[bv u]) (λ_=>True) (λ_=>0) 1 (by decide) (λ_=>rfl) trivial rfl Tryz.underlying24 (by kernel_rfl)
  (λfuel cs x hl hf=>by
   obtain ⟨u,e⟩:=Qy (P:=Tryz.prog) Tryz.underlying5 hf
   exact ⟨u,trivial,e,Nat.zero_le _⟩) hf
 have hl:((List.range n).map T).length=n:=by rw [List.length_map,List.length_range]
 refine ⟨A,(List.range n).map T,c,by rw [hl]; exact e,by rw [hl]; exact h1,h2,λhne=>?_,by rw [hl]; exact hn⟩
 obtain ⟨g,o,hg⟩:=hls
 have hpos:0<n:=by
  rcases Nat.eq_zero_or_pos n with h | h
  ·subst h; exact absurd rfl hne
  ·exact h
 obtain ⟨hA,hb,hr⟩:=hg hpos
 refine ⟨g,o,hA,hb,λj u hu=>?_⟩
 have hj:j<n:=by have:=(List.getElem?_eq_some_iff.1 hu).1; rwa [hl] at this
 rw [List.getElem?_map,List.getElem?_range hj] at hu
 have hu':T j=u:=by simpa using hu
 have:=hr j hj 0 (bv u) (by rw [← hu']; rfl)
 rwa [Nat.mul_one,Nat.add_zero] at this
abbrev RowP:=Option Addr×Nat×Nat×(Nat→Pr)
def RowP.is (W:World) (y:RowP):Prop:=Lst W 9 y.1 y.2.1 (λk=>(y.2.2.2 k).cells)∧∀ k,(y.2.2.2 k).ok
set_option maxRecDepth 100000 in
theorem Je {H:Type} {enc:TypeId×Value→H} {W:World} {fuel:Nat} {cs:List Value} {x:DataW H×List MemPlace} (hf:DataW.trod enc Tryz.prog W 0 (λ_=>true) true fuel 25 cs=some x) :
  ∃ (R:Option Addr) (NR cR:Nat) (a:Nat→Option Addr) (nk ck:Nat→Nat) (X Y:Nat→Nat→Nat) (I:Nat→Nat→Bool),cs=[.slice R NR cR]∧(∀ i k,X i k<K4)∧(∀ i k,Y i k<K4)∧(∀ i,nk i≤Rows.uptoBulk x.1)∧Lst W 1 R NR (λi=>[.slice (a i) (nk i) (ck i)])∧(∀ i,i<NR→Lst W 9 (a i) (nk i) (λk=>pml (X i k) (Y i k) (I i k)))∧NR≤Rows.uptoBulk x.1:=by
 obtain ⟨R,NR,cR,T,e,_,_,hok,hsz,hls,hn⟩:=CU (P:=Tryz.prog) (λy:RowP=>[.slice y.1 y.2.1 y.2.2.1]) (RowP.is W) (λy=>y.2.1) 1 (by decide) (λ_=>rfl)
  ⟨It λh=>absurd h (Nat.lt_irrefl _),λ_=>⟨CC,CC⟩⟩ rfl Tryz.underlying25 (by kernel_rfl)
  (λfuel cs x _ hf=>by
   obtain ⟨A,n,c,T,e,_,_,hT,_,hls,hn⟩:=CU (P:=Tryz.prog) Pr.cells Pr.ok (λ_=>0) 9 (by decide) (λ_=>rfl) ⟨CC,CC⟩ rfl Tryz.underlying49 (by kernel_rfl)
    (λfuel cs x hl hf=>by
     obtain ⟨y,hy,e⟩:=Np fuel cs x hl hf
     exact ⟨y,hy,e,Nat.zero_le _⟩) hf
   exact ⟨(A,n,c,T),⟨hls,hT⟩,e,hn⟩) hf
 exact ⟨R,NR,cR,λi=>(T i).1,λi=>(T i).2.1,λi=>(T i).2.2.1,λi k=>((T i).2.2.2 k).x,λi k=>((T i).2.2.2 k).y,λi k=>((T i).2.2.2 k).i,e,λi k=>((hok i).2 k).1,λi k=>((hok i).2 k).2,hsz,hls,λi _=>(hok i).1,hn⟩
set_option maxRecDepth 100000 in
theorem G9 {H:Type} {enc:TypeId×Value→H} {W:World} {fuel:Nat} {cs:List Value} {x:DataW H×List MemPlace} (hf:DataW.trod enc Tryz.prog W 0 (λ_=>true) true fuel 26 cs=some x) :
  ∃ (S:Option Addr) (NS cS:Nat) (At:Nat→Int) (sx:Nat→Nat),cs=[.slice S NS cS]∧(∀ i,sx i<K4)∧Lst W 5 S NS (λi=>Ai (At i) (sx i))∧NS≤Rows.uptoBulk x.1:=by
 obtain ⟨S,NS,cS,T,e,_,_,hok,_,hls,hn⟩:=CU (P:=Tryz.prog) (λy:Int×Nat=>Ai y.1 y.2) (λy=>y.2<K4) (λ_=>0) 5 (by decide) (λ_=>rfl) CC rfl Tryz.underlying26 (by kernel_rfl)
  (λfuel cs x hl hf=>by
   obtain ⟨y0,y1,n,_,_,g0,g1⟩:=trod_struct2 Tryz.underlying48 hf
   obtain ⟨z,e0,_⟩:=PR (P:=Tryz.prog) Tryz.underlying3 g0
   have l1:((cs.drop 1).take 4).length=4:=by rw [List.length_take,List.length_drop,hl]; rfl
   obtain ⟨k,hk,e1⟩:=Gi l1 (P:=Tryz.prog) Tryz.underlying46 Tryz.underlying44 (by kernel_rfl) g1
   refine ⟨(z,k),hk,?_,Nat.zero_le _⟩
   have s:=KT (cs:=cs) (a:=1) (b:=4) hl
   have q0:(cs.drop 0).take 1=[.int .i64 z]:=e0
   rw [s,q0,e1]
   rfl) hf
 exact ⟨S,NS,cS,λi=>(T i).1,λi=>(T i).2,e,hok,hls,hn⟩
set_option maxRecDepth 100000 in
theorem open_case {H:Type} {enc:TypeId×Value→H} {W:World} {r:Reach} {b0:Nat} {v:Value} {d:DataW H} {ps:List MemPlace}
  (hval:Value.okWide Tryz.prog W r b0 28 v) (h:DataW.Trod enc Tryz.prog W 0 (λ_=>true) true 28 v d ps) :
  ∃ (sd:List UInt8) (A:Option Addr) (m:List UInt8) (c:Nat) (R:Option Addr) (NR cR:Nat) (a:Nat→Option Addr) (nk ck:Nat→Nat) (X Y:Nat→Nat→Nat) (I:Nat→Nat→Bool) (S:Option Addr) (NS cS:Nat) (At:Nat→Int) (sx:Nat→Nat),
   v=csv sd [.slice A m.length c,.slice R NR cR,.slice S NS cS]∧sd.length=32∧(m.length≤c∧c≤9223372036854775807∧Sh.Src W A m)∧((∀ i k,X i k<K4)∧(∀ i k,Y i k<K4)∧Lst W 1 R NR (λi=>[.slice (a i) (nk i) (ck i)])∧∀ i,i<NR→Lst W 9 (a i) (nk i) (λk=>pml (X i k) (Y i k) (I i k)))∧((∀ i,sx i<K4)∧Lst W 5 S NS (λi=>Ai (At i) (sx i)))∧m.length≤Rows.uptoBulk d∧NR≤Rows.uptoBulk d∧(∀ i,nk i≤Rows.uptoBulk d)∧NS≤Rows.uptoBulk d:=by
 have ht:=Tryz.underlying28
 obtain ⟨⟨cs⟩,rfl,hsz⟩:=okWide_struct ht hval
 rw [show Tryz.prog.cellsOf 28=35 by kernel_rfl] at hsz
 have hl:cs.length=32+(1+(1+1)):=by simpa using hsz
 obtain ⟨fuel,hf⟩:=h
 obtain ⟨y0,y1,y2,y3,n,hx,_,g0,g1,g2,g3⟩:=Joins.trod_struct4 ht (by simpa [Value.cells] using hf)
 have s:=Qe hl
 obtain ⟨sd,hsd,e0⟩:=Ga (P:=Tryz.prog) Tryz.underlying23 Tryz.underlying5 (by kernel_rfl) (by kernel_rfl) g0
 obtain ⟨A,m,c,e1,hc1,hc2,hs1,hm⟩:=Kk g1
 obtain ⟨R,NR,cR,a,nk,ck,X,Y,I,e2,hX,hY,hnk,hlr,hlk,hNR⟩:=Je g2
 obtain ⟨S,NS,cS,At,sx,e3,hsx,hls,hNS⟩:=G9 g3
 simp only [Prod.mk.injEq] at hx
 have hd:Rows.uptoBulk d=Rows.uptoBulk y0.1+(Rows.uptoBulk y1.1+(Rows.uptoBulk y2.1+(Rows.uptoBulk y3.1+0)))+1:=by rw [hx.1]; rfl
 refine ⟨sd,A,m,c,R,NR,cR,a,nk,ck,X,Y,I,S,NS,cS,At,sx,?_,hsd,⟨hc1,hc2,hs1⟩,⟨hX,hY,hlr,hlk⟩,⟨hsx,hls⟩,by omega,by omega,λi=>?_,by omega⟩
 ·have q0:(cs.drop 0).take 32=sd.map bv:=e0
  have q1:(cs.drop 32).take 1=[.slice A m.length c]:=e1
  have q2:(cs.drop (32+1)).take 1=[.slice R NR cR]:=e2
  have q3:(cs.drop (32+1+1)).take 1=[.slice S NS cS]:=e3
  rw [s,q0,q1,q2,q3]
  rfl
 ·have:=hnk i
  omega
end Cu
end
section
namespace Cu
open Go.ChangeShapes Go.WideShapes Go.ChangeAt Go.RowKit Sy Go.Deep
abbrev RowN:=Option Addr×Nat×Nat×(Nat→Nat)
def RowN.is (W:World) (y:RowN):Prop:=Lst W 4 y.1 y.2.1 (λk=>fws (y.2.2.2 k))∧∀ k,y.2.2.2 k<K4
set_option maxRecDepth 100000 in
theorem Kl {H:Type} {enc:TypeId×Value→H} {W:World} {fuel:Nat} {cs:List Value} {x:DataW H×List MemPlace} (hf:DataW.trod enc Tryz.prog W 0 (λ_=>true) true fuel 29 cs=some x) :
  ∃ (R:Option Addr) (NR cR:Nat) (a:Nat→Option Addr) (nk ck:Nat→Nat) (s:Nat→Nat→Nat),cs=[.slice R NR cR]∧(∀ i k,s i k<K4)∧(∀ i,nk i≤Rows.uptoBulk x.1)∧Lst W 1 R NR (λi=>[.slice (a i) (nk i) (ck i)])∧(∀ i,i<NR→Lst W 4 (a i) (nk i) (λk=>fws (s i k)))∧NR≤Rows.uptoBulk x.1:=by
 obtain ⟨R,NR,cR,T,e,_,_,hok,hsz,hls,hn⟩:=CU (P:=Tryz.prog) (λy:RowN=>[.slice y.1 y.2.1 y.2.2.1]) (RowN.is W) (λy=>y.2.1) 1 (by decide) (λ_=>rfl)
  ⟨It λh=>absurd h (Nat.lt_irrefl _),λ_=>CC⟩ rfl Tryz.underlying29 (by kernel_rfl)
  (λfuel cs x _ hf=>by
   obtain ⟨A,n,c,T,e,_,_,hT,_,hls,hn⟩:=CU (P:=Tryz.prog) (λn:Nat=>fws n) (λn=>n<K4) (λ_=>0) 4 (by decide) (λ_=>rfl) CC rfl Tryz.underlying55 (by kernel_rfl)
    (λfuel cs x hl hf=>by
     obtain ⟨k,hk,e⟩:=Gi hl (P:=Tryz.prog) Tryz.underlying46 Tryz.underlying44 (by kernel_rfl) hf
     exact ⟨k,hk,e,Nat.zero_le _⟩) hf
   exact ⟨(A,n,c,T),⟨hls,hT⟩,e,hn⟩) hf
 exact ⟨R,NR,cR,λi=>(T i).1,λi=>(T i).2.1,λi=>(T i).2.2.1,λi k=>(T i).2.2.2 k,e,λi k=>(hok i).2 k,hsz,hls,λi _=>(hok i).1,hn⟩
set_option maxRecDepth 100000 in
theorem open_ringsig {H:Type} {enc:TypeId×Value→H} {W:World} {r:Reach} {b0:Nat} {v:Value} {d:DataW H} {ps:List MemPlace}
  (hval:Value.okWide Tryz.prog W r b0 31 v) (h:DataW.Trod enc Tryz.prog W 0 (λ_=>true) true 31 v d ps) :
  ∃ (dd:List UInt8) (R:Option Addr) (NR cR:Nat) (a:Nat→Option Addr) (nk ck:Nat→Nat) (s:Nat→Nat→Nat),v=Ar dd R NR cR∧dd.length=32∧(∀ i k,s i k<K4)∧Lst W 1 R NR (λi=>[.slice (a i) (nk i) (ck i)])∧(∀ i,i<NR→Lst W 4 (a i) (nk i) (λk=>fws (s i k)))∧NR≤Rows.uptoBulk d∧∀ i,nk i≤Rows.uptoBulk d:=by
 have ht:=Tryz.underlying31
 obtain ⟨⟨cs⟩,rfl,hsz⟩:=okWide_struct ht hval
 rw [show Tryz.prog.cellsOf 31=33 by kernel_rfl] at hsz
 have hl:cs.length=32+1:=by simpa using hsz
 obtain ⟨fuel,hf⟩:=h
 obtain ⟨y0,y1,n,hx,_,g0,g1⟩:=trod_struct2 ht (by simpa [Value.cells] using hf)
 have s:=KT hl
 obtain ⟨sd,hsd,e0⟩:=Ga (P:=Tryz.prog) Tryz.underlying23 Tryz.underlying5 (by kernel_rfl) (by kernel_rfl) g0
 obtain ⟨R,NR,cR,a,nk,ck,S,e1,hS,hnk,hlr,hlk,hNR⟩:=Kl g1
 simp only [Prod.mk.injEq] at hx
 have hd:Rows.uptoBulk d=Rows.uptoBulk y0.1+(Rows.uptoBulk y1.1+0)+1:=by rw [hx.1]; rfl
 refine ⟨sd,R,NR,cR,a,nk,ck,S,?_,hsd,hS,hlr,hlk,by omega,λi=>?_⟩
 ·have q0:(cs.drop 0).take 32=sd.map bv:=e0
  have q1:(cs.drop 32).take 1=[.slice R NR cR]:=e1
  rw [s,q0,q1]
  rfl
 ·have:=hnk i
  omega
end Cu
end
end Go.Proofs.YtlooclodlpcglaaGreatDoor
