/-
  Texts of ours, put together: RingM, SymP, RingF, RingN, SymM, EnA, EnB, EnC, ManA, RingG, RingO, RingR, RingS, RingT, RingU, SymN, RingV, RingP, RingQ, RingSignsL, PLift7, PLift8, SurA.
-/
import Derived.Test.YtbjmjcpdonochaaGreatDoorBE6
set_option linter.unusedVariables false
set_option linter.unusedSimpArgs false
set_option maxRecDepth 100000
set_option maxHeartbeats 4000000
namespace Go.Proofs.YtbjmjcpdonochaaGreatDoor
section
namespace Cu
open Go.RowKit Sy
def AM (d:List UInt8) (W:Option Addr) (NW cW:Nat):List Value:=d.map bv++[.slice W NW cW]
abbrev zS33:=(AM (List.replicate 32 (0:UInt8)) none 0 0)
def AX (d:List UInt8) (W:Option Addr) (NW cW:Nat):Value:=.agg (AM d W NW cW).toArray
section
variable {d:List UInt8} {W:Option Addr} {NW cW:Nat}
theorem Ag (h:d.length=32):(AM d W NW cW).length=33:=by simp [AM,h]
theorem BV:∀ u∈AM d W NW cW,u.oneCell'=true:=λu hu=>by
 rcases List.mem_append.1 hu with hu | hu
 ·obtain ⟨x,_,rfl⟩:=List.mem_map.1 hu; rfl
 ·rw [List.mem_singleton.1 hu]; rfl
theorem Dd (h:d.length=32):(AM d W NW cW).toArray[32]? = some (.slice W NW cW):=by
 rw [List.getElem?_toArray]
 unfold AM
 rw [List.getElem?_append_right (by rw [List.length_map,h]; exact Nat.le_refl _),List.length_map,h]
 rfl
theorem Gg (h:d.length=32):Value.agg (((AM d W NW cW).toArray.toList.drop 0).take 32).toArray=.agg (d.map bv).toArray:=by
 show Value.agg ((((AM d W NW cW)).drop 0).take 32).toArray=_
 rw [List.drop_zero]
 unfold AM
 rw [List.take_left' (by rw [List.length_map,h])]
theorem Iw (h:d.length=32):0+32≤(AM d W NW cW).toArray.size:=by rw [List.size_toArray,Ag h]; decide
theorem C_ (h:d.length=32):Value.agg (((AM d W NW cW).toArray.toList.drop 0).take 33).toArray=AX d W NW cW:=by
 show Value.agg ((((AM d W NW cW)).drop 0).take 33).toArray=_
 rw [List.drop_zero,List.take_of_length_le (by rw [Ag h]; exact Nat.le_refl _)]
 rfl
theorem Ek (h:d.length=32):0+33≤(AM d W NW cW).toArray.size:=by rw [List.size_toArray,Ag h]; decide
theorem Iv {w:World} {g:Nat} {t:TypeId} (hb:Blk w g t (AM d W NW cW).toArray):Sh.Src w (pA g) d:=λ_=>⟨g,0,rfl,hb.lt,λj u hj=>by
 refine (hb.cell (0+j)).trans ?_
 have hl:=(List.getElem?_eq_some_iff.1 hj).1
 rw [Nat.zero_add,List.getElem?_toArray]
 unfold AM
 rw [List.getElem?_append_left (by simpa using hl),List.getElem?_map,hj]
 rfl⟩
end
section
variable (s:Nat→Nat→Nat) (bm:List UInt8) (X Y:Nat→Nat→Nat) (I:Nat→Nat→Bool) (d:List UInt8)
def eE (i j:Nat):Nat:=rgC bm (alX (s i) bm i 0 (X i) (Y i) (I i) d j) i j
def eF (i j:Nat):List Value:=fws (eE s bm X Y I d i j)
def Cv (nk:Nat→Nat):Nat→List UInt8
 | 0=>[]
 | k+1=>Cv nk k++alX (s k) bm k 0 (X k) (Y k) (I k) d (nk k)
def DA (sn nk:Nat→Nat) (i:Nat):Bool:=decide (sn i=nk i) && (List.range (sn i)).all λj=>decide (s i j%Sc.pM=s i j)
def chB (NW NR:Nat) (sn nk:Nat→Nat):Bool:=decide (NW=NR) && ((List.range NR).all (DA s sn nk) && decide (rgT bm (Cv s bm X Y I d nk NR)=d))
end
section
variable {s:Nat→Nat→Nat} {bm:List UInt8} {X Y:Nat→Nat→Nat} {I:Nat→Nat→Bool} {d:List UInt8} {NW NR:Nat} {sn nk:Nat→Nat}
theorem Tj (i j:Nat):eE s bm X Y I d i j<K4:=Ep _ _ _ _
theorem C6 (s:Nat→Nat) (bm:List UInt8) (i:Nat) (X Y:Nat→Nat) (I:Nat→Bool) (x:List UInt8) (k:Nat):alX s bm i 0 X Y I x (k+1)=Aw (rPt (s k) (rgC bm (alX s bm i 0 X Y I x k) i k) (X k) (Y k) (I k)):=by
 show Aw (rPt (s (0+k)) (rgC bm (alX s bm i 0 X Y I x k) i (0+k)) (X (0+k)) (Y (0+k)) (I (0+k)))=_
 rw [Nat.zero_add]
theorem Ft (h:d.length=32):∀ k,(Cv s bm X Y I d nk k).length≤33*k
 | 0=>Nat.le_refl _
 | k+1=>by
  show (Cv s bm X Y I d nk k++_).length≤_
  have h1:=Ft h k
  have h2:(alX (s k) bm k 0 (X k) (Y k) (I k) d (nk k)).length≤33:=by
   rcases Nat.eq_zero_or_pos (nk k) with h0 | h0
   ·rw [h0]; show d.length≤33; omega
   ·rw [GS h0]; exact Nat.le_refl _
  rw [List.length_append]
  omega
theorem IF {i:Nat} (h:sn i≠nk i):DA s sn nk i=false:=by unfold DA; rw [decide_eq_false h]; rfl
theorem IE {i j:Nat} (hj:j<sn i) (h:s i j%Sc.pM≠s i j):DA s sn nk i=false:=by
 unfold DA
 rw [show ((List.range (sn i)).all λj=>decide (s i j%Sc.pM=s i j))=false from List.all_eq_false.2 ⟨j,List.mem_range.2 hj,by rw [decide_eq_false h]; decide⟩,Bool.and_false]
theorem Fk {i:Nat} (h1:sn i=nk i) (h2:∀ j,j<sn i→s i j%Sc.pM=s i j):DA s sn nk i=true:=by
 unfold DA
 rw [decide_eq_true h1,List.all_eq_true.2 λj hj=>decide_eq_true (h2 j (List.mem_range.1 hj))]
 rfl
theorem rowOk_iff {i:Nat}:DA s sn nk i=true↔sn i=nk i∧∀ j,j<sn i→s i j%Sc.pM=s i j:=by
 unfold DA
 rw [Bool.and_eq_true,decide_eq_true_iff,List.all_eq_true]
 exact ⟨λh=>⟨h.1,λj hj=>of_decide_eq_true (h.2 j (List.mem_range.2 hj))⟩,λh=>⟨h.1,λj hj=>decide_eq_true (h.2 j (List.mem_range.1 hj))⟩⟩
theorem Mb (h:NW≠NR):chB s bm X Y I d NW NR sn nk=false:=by unfold chB; rw [decide_eq_false h]; rfl
theorem GP {k:Nat} (hk:k<NR) (h:DA s sn nk k=false):chB s bm X Y I d NW NR sn nk=false:=by
 unfold chB
 rw [show (List.range NR).all (DA s sn nk)=false from List.all_eq_false.2 ⟨k,List.mem_range.2 hk,by rw [h]; decide⟩,Bool.false_and,Bool.and_false]
theorem Mc (h:rgT bm (Cv s bm X Y I d nk NR)≠d):chB s bm X Y I d NW NR sn nk=false:=by
 unfold chB
 rw [decide_eq_false h,Bool.and_false,Bool.and_false]
theorem GO (h0:NW=NR) (h1:∀ i,i<NR→DA s sn nk i=true) (h:rgT bm (Cv s bm X Y I d nk NR)=d):chB s bm X Y I d NW NR sn nk=true:=by
 unfold chB
 rw [decide_eq_true h0,decide_eq_true h,List.all_eq_true.2 λi hi=>h1 i (List.mem_range.1 hi)]
 rfl
end
def B2:Nat→Nat
 | 0=>32
 | _+1=>33
def XtIs (g:Nat) (d l:List UInt8) (j:Nat) (xt:Sh.Tx) (xb:AC):Prop:=(j=0∧xt=⟨some ⟨g,0,none⟩,d,32⟩∧xb=[]∧l=d)∨(0<j∧l.length=33∧∃ q,xt=⟨some ⟨q,0,none⟩,l,33⟩∧xb=[(q,174,(l.map bv).toArray)])
section
variable {g j:Nat} {d l:List UInt8} {xt:Sh.Tx} {xb:AC} {w0:Base} {w:World} {L:AC}
theorem XtIs.li (h:XtIs g d l j xt xb):xt.l=l:=by
 rcases h with ⟨_,rfl,_,rfl⟩ | ⟨_,_,q,rfl,_⟩ <;> rfl
theorem XtIs.xl (h:XtIs g d l j xt xb) (hd:d.length=32):xt.l.length=B2 j:=by
 rcases h with ⟨rfl,rfl,_,rfl⟩ | ⟨hj,hl,q,rfl,_⟩
 ·exact hd
 ·cases j with
  | zero=>omega
  | succ j=>exact hl
theorem XtIs.val (h:XtIs g d l j xt xb) (hd:d.length=32):xt.val=.slice xt.A (B2 j) xt.c:=by
 unfold Sh.Tx.val
 rw [h.xl hd]
theorem XtIs.len (h:XtIs g d l j xt xb) (hd:d.length=32):xt.l.length≤33∧xt.l.length≤xt.c∧xt.c≤33:=by
 rcases h with ⟨_,rfl,_,rfl⟩ | ⟨_,hl,q,rfl,_⟩
 ·show l.length≤33∧l.length≤32∧32≤33; omega
 ·show l.length≤33∧l.length≤33∧33≤33; omega
theorem XtIs.src (h:XtIs g d l j xt xb) {t:TypeId} {W:Option Addr} {NW cW:Nat} (hw:St w0 w L) (hg:(g,t,(AM d W NW cW).toArray)∈L) (hb:∀ b∈xb,b∈L):Sh.Src w xt.A xt.l:=by
 rcases h with ⟨_,rfl,_,rfl⟩ | ⟨_,_,q,rfl,rfl⟩
 ·exact Iv (hw.blk _ _ _ hg).2
 ·exact Sh.Src.of_blk (hw.blk _ _ _ (hb _ (List.mem_singleton.2 U))).2
theorem XtIs.ok (h:XtIs g d l j xt xb) (hj:0<j):∀ w L,St w0 w L→(∀ b∈xb,b∈L)→xt.ok w:=by
 rcases h with ⟨h0,_⟩ | ⟨_,hl,q,rfl,rfl⟩
 ·omega
 ·exact LG om dZ
end
def ChR (b:Bool) (f:Nat→Nat→List Value) (nk:Nat→Nat) (NR:Nat) (v:Value) (M:AC):Prop:=(b=false∧v=.tuple #[.slice none 0 0,.bool false]∧M=[])∨(b=true∧∃ u,v=.tuple #[u,.bool true]∧F0 51 42 4 f (Bw nk NR 0) NR u M)
theorem GC (w:World) (R:Option Addr) (NR cR:Nat) (a:Nat→Option Addr) (nk ck:Nat→Nat) (X Y:Nat→Nat→Nat) (I:Nat→Nat→Bool) (hX:∀ i k,X i k<K4) (hY:∀ i k,Y i k<K4) (hNR:NR≤4611686018427387904) (hnk:∀ i,nk i≤4611686018427387904) (hlr:Lst w 1 R NR (λi=>[.slice (a i) (nk i) (ck i)])) (hlk:∀ i,i<NR→Lst w 9 (a i) (nk i) (λk=>pml (X i k) (Y i k) (I i k))) (hN32:NR≤32) (hn64:∀ i,i<NR→nk i≤64) (hn1:∀ i,i<NR→1≤nk i) (bm:List UInt8) (hbm:bm.length=32) (d:List UInt8) (hd:d.length=32) (W:Option Addr) (NW cW:Nat) (sa:Nat→Option Addr) (sn sc:Nat→Nat) (s:Nat→Nat→Nat) (hsc:∀ i k,s i k<K4) (hNW:NW≤4611686018427387904) (hsn9:∀ i,i<NW→sn i≤4611686018427387904) (hlw:Lst w 1 W NW (λi=>[.slice (sa i) (sn i) (sc i)])) (hls:∀ i,i<NW→Lst w 4 (sa i) (sn i) (λk=>fws (s i k))) (ht:Sh.TabAt w 1):Calls Tryz.prog 40 #[BD R NR cR bm,AX d W NW cW] w (GetsN w (ChR (chB s bm X Y I d NW NR sn nk) (eF s bm X Y I d) nk NR)):=by
 have hlr0:=hlr
 obtain ⟨gR,oR,hR⟩:=hlr
 obtain ⟨gW,oW,hW⟩:=hlw
 refine Sy.enter (args:=[BD R NR cR bm,AX d W NW cW]) Tryz.func40 U kL<|sC<|sM 79 (As R NR cR bm).toArray (λg0=>?_)
 refine sM 31 (AM d W NW cW).toArray (λg1=>?_)
 refine sP (.slice none 0 0)<|sP (.bool false)<|sG<|Sy.scope<|Sy.seq<|sC<|sP (pT g1 32)<|sS (.slice W NW cW) (Quiet.cell 1 g1 32 31 29 (AM d W NW cW).toArray _ _ U kR kR B4 U _ (Dd hd))<|sP (iZ NW)<|sP (pT g0 0)<|sS (.slice R NR cR) (Quiet.cell 0 g0 0 79 25 (As R NR cR bm).toArray _ _ U kR kR CY U _ kR)<|sP (iZ NR) ?_
 obtain ⟨b1,hb1⟩:=xE (decide (NW≠NR))
 refine sS (.bool b1) (qne U U U hb1)<|sG ?_
 cases b1
 ·have lb1:=dN hb1
  obtain rfl:NR=NW:=om
  refine sU<|Sy.skip<|sB<|sP (pT g0 0)<|sS (.slice R NR cR) (Quiet.cell 0 g0 0 79 25 (As R NR cR bm).toArray _ _ U kR kR CY U _ kR)<|sP (iZ NR)<|Sy.make kR 51 (AO (λ_=>[.slice none 0 0]) NR).toArray (λg=>.slice (pA g) NR NR) (Makes.slice 29 51 _ (.slice none 0 0) 1 24 _ _ .i64 .i64 NR [.slice none 0 0] rfl U U B4 FD kR kR dZ kR kR kR om om) (λg2=>?_)
  refine sP (.slice (pA g2) NR NR)<|sA<|sP (.slice none 0 0)<|sG<|Sy.seq<|Sy.label<|Sy.then_<|Sy.seq<|sC<|sP (pT g1 32)<|sS (.slice W NR cW) (Quiet.cell 1 g1 32 31 29 (AM d W NR cW).toArray _ _ U kR kR B4 U _ (Dd hd))<|sP (iZ NR)<|sP (.int .i64 0)<|sG<|Sy.block<|Sy.loopT (Y:=(Nat→Slc)×Slc×AC×List Sh.Tx) NR (λk1 y1=>[(2,pT g0 0),(3,pT g1 0),(6,.slice (pA g2) NR NR),(7,y1.2.1.v),(26,.slice W NR cW),(27,iZ NR),(28,iZ k1)]) (λk1 y1=>[(g0,79,(As R NR cR bm).toArray),(g1,31,(AM d W NR cW).toArray),(g2,51,(Ar y1.1 NR))]++(Av y1.1 NR++(y1.2.1.bl++y1.2.2.1))) (λk1 y1=>RowsAre y1.1 42 4 (eF s bm X Y I d) (Bw nk k1 0)∧TxsIs (Base.of w) 24 y1.2.1 y1.2.2.1 y1.2.2.2∧Sh.cat y1.2.2.2=Cv s bm X Y I d nk k1∧y1.2.2.2.length=k1∧∀ i,i<k1→DA s sn nk i=true) (λ_=>nilS,nilS,[],[]) ⟨(RowsAre.nil _ _ _).cnt (Ea nk),TxsIs.nil _ _,rfl,rfl,λi hi=>absurd hi (Nat.not_lt_zero _)⟩ ac7 (λw hw=>by rw [EN]; exact hw) (λk1 y1 hk1 hh1=>?_)
  refine sC ?_
  obtain ⟨b2,hb2⟩:=xE (decide (k1<NR))
  refine sS (.bool b2) (qls U U U hb2)<|sG<|Sy.seq ?_
  cases b2
  ·have lb2:=dN hb2
   refine sU<|Sy.exit<|Sy.then_exit<|Sy.then_exit ?_
   obtain rfl:NR=k1:=om
   refine Sy.in_exit<|Sy.then_<|Sy.seq<|Sy.seq<|Sy.regionD (λj=>false) kR<|sZ 0 U (y1.2.1.v)<|sD 1 U (iZ NR) (Quiet.lenR hh1.2.1.row (by rw [List.length_map]; exact hh1.2.2.2.1) _ Fd U U)<|sZ 2 U (pT g0 0)<|sD 3 U (.slice R NR cR) (Quiet.cell 0 g0 0 79 25 (As R NR cR bm).toArray _ _ U kR kR CY U _ kR)<|sZ 4 U (iZ NR) ?_
   obtain ⟨b3,hb3⟩:=xE (decide (NR≠NR))
   refine sD 5 U (.bool b3) (qne U U U hb3)<|sZ 6 U (.bool b3) ?_
   cases b3
   ·have lb3:=dN hb3
    refine sD 7 U (BD R NR cR bm) (Quiet.load 0 g0 0 33 79 79 (As R NR cR bm).toArray _ _ U kR kR Ez U kR _ (BQ hbm) (Bx hbm))<|sZ 8 U (y1.2.1.v) ?_
    obtain ⟨d0,hd0⟩:=xE (rgT bm (Cv s bm X Y I d nk NR))
    have hd1:d0.length=32:=by rw [hd0]; exact GH _ _
    refine sD 9 U (.agg (d0.map bv).toArray) (Quiet.callS 101 #[BD R NR cR bm,y1.2.1.v] kF (λw hw=>by obtain ⟨Q,dd,hv,hc9,_,htx⟩:=hh1.2.1.texts; rw [hv,hd0, ← hh1.2.2.1]; have hel:=Ft (s:=s) (bm:=bm) (X:=X) (Y:=Y) (I:=I) (nk:=nk) hd NR; exact Hb w R NR cR bm hbm Q _ dd y1.2.2.2 (htx hw (λb hb=>List.mem_append.2 (.inr (List.mem_append.2 (.inr (List.mem_append.2 (.inl hb)))))) (λb hb=>List.mem_append.2 (.inr (List.mem_append.2 (.inr (List.mem_append.2 (.inr hb))))))) (hh1.2.1.ok w _ hw (λb hb=>List.mem_append.2 (.inr (List.mem_append.2 (.inr (List.mem_append.2 (.inr hb))))))) U hc9 om (by rw [hh1.2.2.1]; omega) (ht.below hw.below ht.lt)))<|sZ 10 U (pT g1 0)<|sD 11 U (.agg (d.map bv).toArray) (Quiet.load 1 g1 0 32 31 23 (AM d W NR cW).toArray _ _ U kR kR D6 U kR _ (Gg hd) (Iw hd)) ?_
    obtain ⟨b4,hb4⟩:=xE (decide (d0≠d))
    refine sD 12 U (.bool b4) (Quiet.pure (λw=>by rw [hb4]; exact LK w _ _ _ _ d0 d hd1 hd U U U))<|sZ 13 U (.bool b4)<|sI ?_
    cases b4
    ·have lb4:=dN hb4
     refine sU<|Sy.skip<|sB<|sP (.slice (pA g2) NR NR)<|sP (.slice (pA g2) NR NR)<|sP (.bool true)<|sG<|Sy.ret<|Sy.sc_r ?_
     exact BJ ((g2,51,Ar y1.1 NR)::Av y1.1 NR) rfl (v:=.slice (pA g2) NR NR) (u:=.bool true) (.inl (show _=_ by kernel_rfl)) (.inl (show _=_ by kernel_rfl)) (λw hw=>(St.pick (pre:=[(g0,79,(As R NR cR bm).toArray),(g1,31,(AM d W NR cW).toArray),(g2,51,(Ar y1.1 NR))]) (M:=[(g2,51,Ar y1.1 NR)]) [2] dZ kR hw).less (by rw [← List.append_assoc]; exact List.sublist_append_left _ _)) (.inr ⟨GO U hh1.2.2.2.2 (by rw [← hd0]; exact Decidable.of_not_not lb4),_,rfl,_,y1.1,rfl,rfl,hh1.1⟩)
    ·have lb4:=dY hb4
     refine sT<|sC<|sP (.slice none 0 0)<|sP (.bool false)<|sG<|Sy.ret<|Sy.then_ret<|Sy.sc_r ?_
     exact BJ [] rfl (v:=.slice none 0 0) (u:=.bool false) (.inl (show _=_ by kernel_rfl)) (.inl (show _=_ by kernel_rfl)) (λ_ hw=>hw.none) (.inl ⟨Mc (by rw [← hd0]; exact lb4),rfl,rfl⟩)
   ·have lb3:=dY hb3
    exact absurd U lb3
  ·have lb2:=dY hb2
   have hnk1:=hn64 k1 lb2
   have hnk0:=hn1 k1 lb2
   obtain ⟨gK,oK,hT⟩:=hlk k1 lb2
   obtain ⟨gS,oS,hS⟩:=hls k1 lb2
   have hsn8:=hsn9 k1 lb2
   refine sT<|Sy.skip<|Sy.then_<|Sy.seq<|Sy.block<|sC<|sP (iZ k1)<|sS (.pointer (some ⟨gW,oW+k1*1,none⟩)) (Quiet.pure (AJ 29 _ _ _ W gW oW NR cW k1 1 .i64 (hW om).1 U U U B4 kF om))<|sS (.slice (sa k1) (sn k1) (sc k1)) (Quiet.thereOne gW (oW+k1*1) 51 _ _ U kR (hW om).2.1 _ (AR ((hW om).2.2 k1 om) 0 U) B3 U)<|sP (iZ k1)<|sP (.slice (sa k1) (sn k1) (sc k1))<|sG<|Sy.seq<|sC<|sP (.slice (sa k1) (sn k1) (sc k1))<|sP (iZ ((sn k1)))<|sP (pT g0 0)<|sS (.slice R NR cR) (Quiet.cell 0 g0 0 79 25 (As R NR cR bm).toArray _ _ U kR kR CY U _ kR)<|sP (iZ k1)<|sS (.pointer (some ⟨gR,oR+k1*1,none⟩)) (Quiet.pure (AJ 25 _ _ _ R gR oR NR cR k1 1 .i64 (hR om).1 U U U CY kF om))<|sS (.slice (a k1) (nk k1) (ck k1)) (Quiet.thereOne gR (oR+k1*1) 45 _ _ U kR (hR om).2.1 _ (AR ((hR om).2.2 k1 om) 0 U) CH U)<|sP (iZ ((nk k1))) ?_
   obtain ⟨b5,hb5⟩:=xE (decide ((sn k1)≠(nk k1)))
   refine sS (.bool b5) (qne U U U hb5)<|sG ?_
   cases b5
   ·have lb5:=dN hb5
    have hsn:sn k1=nk k1:=om
    refine sU<|Sy.skip<|sB<|sP (pT g1 0)<|sP (.slice (pA g1) 32 32)<|sP (.slice (pA g1) 32 32)<|sG<|Sy.seq<|sC<|sP (.slice (sa k1) (sn k1) (sc k1))<|sP (iZ ((sn k1)))<|sP (.int .i64 0)<|sG<|Sy.block<|Sy.loopT (Y:=(Nat→Slc)×Sh.Tx×AC) (sn k1) (λk2 y2=>[(2,pT g0 0),(3,pT g1 0),(6,.slice (pA g2) NR NR),(7,y1.2.1.v),(8,iZ k1),(9,.slice (sa k1) (sn k1) (sc k1)),(10,.slice y2.2.1.A (B2 k2) y2.2.1.c),(26,.slice W NR cW),(27,iZ NR),(28,iZ k1),(44,.slice (sa k1) (sn k1) (sc k1)),(45,iZ ((sn k1))),(46,iZ k2)]) (λk2 y2=>[(g0,79,(As R NR cR bm).toArray),(g1,31,(AM d W NR cW).toArray),(g2,51,(Ar y2.1 NR))]++(Av y2.1 NR++(y1.2.1.bl++(y1.2.2.1++y2.2.2)))) (λk2 y2=>RowsAre y2.1 42 4 (eF s bm X Y I d) (Bw nk k1 k2)∧XtIs g1 d (alX (s k1) bm k1 0 (X k1) (Y k1) (I k1) d k2) k2 y2.2.1 y2.2.2∧∀ i,i<k2→s k1 i%Sc.pM=s k1 i) (y1.1,⟨some ⟨g1,0,none⟩,d,32⟩,[]) ⟨hh1.1,.inl ⟨rfl,rfl,rfl,rfl⟩,λi hi=>absurd hi (Nat.not_lt_zero _)⟩ Ts (λw hw=>by rw [List.append_nil]; exact hw) (λk2 y2 hk2 hh2=>?_)
    refine sC ?_
    obtain ⟨b6,hb6⟩:=xE (decide (k2<(sn k1)))
    refine sS (.bool b6) (qls U U U hb6)<|sG<|Sy.seq ?_
    cases b6
    ·have lb6:=dN hb6
     refine sU<|Sy.exit<|Sy.then_exit<|Sy.then_exit ?_
     obtain rfl:k2=sn k1:=om
     refine Sy.in_exit<|Sy.then_<|Sy.region<|sP (y1.2.1.v)<|sP (.slice y2.2.1.A (B2 (sn k1)) y2.2.1.c)<|Sy.make kR 24 #[.slice y2.2.1.A (B2 (sn k1)) y2.2.1.c] (λg=>.slice (pA g) 1 1) kF (λg3=>?_)
     refine Sy.movT<|Sy.permS Sy.rot_perm<|Sy.appendR kR 88 24 _ _ 1 24 Fd Dt U U U U dZ _ _ U hh1.2.1.row kR [.slice y2.2.1.A (B2 (sn k1)) y2.2.1.c] rfl (Er _ _ _) 3 g3 24 kR kR (by rw [List.length_map,hh1.2.2.2.1]; omega) (by rw [List.length_map,hh1.2.2.2.1]; simp only [maxLen]; omega) (λr1 hr1=>?_)
     refine Sy.permS Sy.tor_perm<|sP (r1.v)<|Sy.nil<|Sy.in_<|Sy.then_<|Sy.region<|sS (iZ (k1+1)) (qad U U U)<|sP (iZ (k1+1))<|Sy.nil ?_
     exact Sy.againT ((y2.1,r1,y1.2.2.1++y2.2.2,y1.2.2.2++[y2.2.1])) om (⟨hh2.1.cnt (λi=>by rw [hsn]; exact Fw nk k1 i),hh1.2.1.add y2.2.1 y2.2.2 hr1 (hh2.2.1.val hd) (hh2.2.1.ok om),by rw [FK,hh1.2.2.1,hh2.2.1.li,hsn]; rfl,by rw [List.length_append,hh1.2.2.2.1]; rfl,λi hi=>(Nat.lt_succ_iff_lt_or_eq.1 hi).elim (hh1.2.2.2.2 i) (λh=>by rw [h]; exact Fk hsn hh2.2.2)⟩) ac7 (λw hw=>St.pick (pre:=[(g0,79,(As R NR cR bm).toArray),(g1,31,(AM d W NR cW).toArray),(g2,51,(Ar y2.1 NR)),(g3,24,#[.slice y2.2.1.A (B2 (sn k1)) y2.2.1.c])]) (M:=[(g0,79,(As R NR cR bm).toArray),(g1,31,(AM d W NR cW).toArray),(g2,51,(Ar y2.1 NR))]) [0,1,2] dZ kR hw)
    ·have lb6:=dY hb6
     refine sT<|Sy.skip<|Sy.then_<|Sy.seq<|Sy.block<|sC<|sP (iZ k2)<|sS (.pointer (some ⟨gS,oS+k2*4,none⟩)) (Quiet.pure (AJ 51 _ _ _ (sa k1) gS oS (sn k1) (sc k1) k2 4 .i64 (hS om).1 U U U B3 kF om))<|sS (fv (s k1 k2)) (Quiet.there gS (oS+k2*4) 4 42 (fws (s k1 k2)) _ _ U kR (hS om).2.1 ((hS om).2.2 k2 om) Ak U kR U _ U)<|sM 42 (fcs 0) (λg4=>?_)
     refine Sy.movT<|sP (iZ k2)<|sW 3 g4 42 (fcs 0) (fcs (s k1 k2)) (wS 0 42 (fcs (s k1 k2)) U)<|Sy.setT<|sG<|Sy.seq<|Sy.seq<|Sy.regionD (λj=>false) kR<|sD 0 U (fv (s k1 k2)) (qL 3 g4 0 4 42 42 (fcs (s k1 k2)) U Ak)<|sD 1 U (fv (s k1 k2%Sc.pM)) (qF 105 #[fv (s k1 k2)] (λw=>Sc.norm_any w (s k1 k2) (hsc k1 k2)))<|sD 2 U (fv (s k1 k2)) (qL 3 g4 0 4 42 42 (fcs (s k1 k2)) U Ak) ?_
     obtain ⟨b7,hb7⟩:=xE (decide ((s k1 k2%Sc.pM)≠(s k1 k2)))
     refine sD 3 U (.bool b7) (Quiet.pure (λw=>by rw [hb7,decide_not]; exact Ol w _ _ _ _ _ _ U U U (by first | exact hsc _ _ | exact Sc.mod_lt _ | exact Ep _ _ _ _ | exact Gp _ _ _ _ | assumption) (by first | exact hsc _ _ | exact Sc.mod_lt _ | exact Ep _ _ _ _ | exact Gp _ _ _ _ | assumption)))<|sI ?_
     cases b7
     ·have lb7:=dN hb7
      have hnorm:s k1 k2%Sc.pM=s k1 k2:=Decidable.of_not_not lb7
      refine sU<|Sy.skip<|sB<|sS (BD R NR cR bm) (Quiet.load 0 g0 0 33 79 79 (As R NR cR bm).toArray _ _ U kR kR Ez U kR _ (BQ hbm) (Bx hbm))<|sP (.slice y2.2.1.A (B2 k2) y2.2.1.c)<|sP (iZ k1)<|sP (iZ k2)<|sS (fv (eE s bm X Y I d k1 k2)) (Quiet.callS 102 #[BD R NR cR bm,.slice y2.2.1.A (B2 k2) y2.2.1.c,iZ k1,iZ k2] kF (λw hw=>by have hl:=hh2.2.1.len hd; have hx:=hh2.2.1.xl hd; have q:=Eb w R NR cR bm hbm y2.2.1.A y2.2.1.l (B2 k2) y2.2.1.c hx om om om (hh2.2.1.src hw (List.mem_append.2 (.inl (List.mem_of_getElem? (i:=1) rfl))) (λb hb=>List.mem_append.2 (.inr (List.mem_append.2 (.inr (List.mem_append.2 (.inr (List.mem_append.2 (.inr hb))))))))) k1 k2 om om (ht.below hw.below ht.lt); rwa [show rgC bm y2.2.1.l k1 k2=eE s bm X Y I d k1 k2 by rw [hh2.2.1.li]; rfl] at q))<|sM 42 (fcs 0) (λg5=>?_)
      refine Sy.movT<|sW 4 g5 42 (fcs 0) (fcs (eE s bm X Y I d k1 k2)) (wS 0 42 (fcs (eE s bm X Y I d k1 k2)) U)<|Sy.setT<|sH (λj=>j == 8 || j == 10)<|Sy.stepDA 0 U kR (λ_ _ _ _ h=>h) kR (.slice (pA g2) NR NR) kF<|Sy.stepDA 1 U kR (λ_ _ _ _ h=>h) kR (iZ k1) kF<|Sy.stepDB 2 [4,5,8,9,10] rfl kR (λ_ _ _ _ h=>h) kR (.slice (pA g2) NR NR) qP<|Sy.stepDB 3 [4,5,8,9,10] rfl kR (λ_ _ _ _ h=>h) kR (iZ k1) qP<|Sy.stepDB 4 [5,8,9,10] rfl kR (λ_ _ _ _ h=>h) kR (.pointer (some ⟨g2,0+k1*1,none⟩)) (Quiet.pure (BT 29 _ _ _ g2 0 NR NR k1 1 .i64 U U U B4 kF om))<|sD 5 U ((y2.1 k1).v) (Quiet.cell 2 g2 (0+k1*1) 51 51 (Ar y2.1 NR) _ _ U kR kR B3 U _ (C4 om U))<|Sy.stepDB 6 [7,8,9,10] rfl kR (λ_ _ _ _ h=>h) kR (fv (eE s bm X Y I d k1 k2)) (qL 4 g5 0 4 42 42 (fcs (eE s bm X Y I d k1 k2)) U Ak) ?_
      refine Sy.makeD 7 U kR kR 42 (fcs (eE s bm X Y I d k1 k2)) (λg=>.slice (pA g) 1 1) kF (λg6=>?_)
      refine Sy.movTD<|Sy.soleD 8 U (λQ2 hq2=>?_)
      refine Sy.permS (Sy.out_perm y2.1 (i:=k1) om)<|Sy.appendR kR 51 42 _ _ 4 32 B3 Du U U U U dZ _ _ U (hh2.1 k1) kR (fws (eE s bm X Y I d k1 k2)) U (C2 _) 5 g6 42 kR kR (by rw [List.length_map,List.length_range,DZ]; omega) (by rw [List.length_map,List.length_range,DZ]; simp only [maxLen]; omega) (λr2 hr2=>?_)
      refine hq2 _ _<|Sy.anyOf [9] kR dZ (Sy.each1 ?_)
      refine Sy.oneQuiet U kR (.pointer (some ⟨g2,0+k1*1,none⟩)) (Quiet.pure (BT 29 _ _ _ g2 0 NR NR k1 1 .i64 U U U B4 kF om))<|Sy.writeD 10 U kR (by rfl) kR 2 g2 51 (Ar y2.1 NR) (Ar (CO y2.1 k1 r2) NR) kR (Writes.one (0+k1*1) 51 (r2.v) _ _ U kR kR kR hr2.cells.1 hr2.cells.2 (Jt om U) (ID om U U))<|Sy.setTD<|Sy.permD (Sy.in_perm om)<|sI<|Sy.regionD (λj=>false) kR<|sD 0 U (fv (s k1 k2)) (qL 3 g4 0 4 42 42 (fcs (s k1 k2)) U Ak)<|sD 1 U (fv (eE s bm X Y I d k1 k2)) (qL 4 g5 0 4 42 42 (fcs (eE s bm X Y I d k1 k2)) U Ak)<|sZ 2 U (pT g0 0)<|sD 3 U (.slice R NR cR) (Quiet.cell 0 g0 0 79 25 (As R NR cR bm).toArray _ _ U kR kR CY U _ kR)<|sZ 4 U (iZ k1)<|sD 5 U (.pointer (some ⟨gR,oR+k1*1,none⟩)) (Quiet.pure (AJ 25 _ _ _ R gR oR NR cR k1 1 .i64 (hR om).1 U U U CY kF om))<|sD 6 U (.slice (a k1) (nk k1) (ck k1)) (Quiet.thereOne gR (oR+k1*1) 45 _ _ U kR (hR om).2.1 _ (AR ((hR om).2.2 k1 om) 0 U) CH U)<|sZ 7 U (iZ k2)<|sD 8 U (.pointer (some ⟨gK,oK+k2*9,none⟩)) (Quiet.pure (AJ 45 _ _ _ (a k1) gK oK (nk k1) (ck k1) k2 9 .i64 (hT om).1 U U U CH kF om))<|sD 9 U (pv (X k1 k2) (Y k1 k2) (I k1 k2)) (Quiet.there gK (oK+k2*9) 9 48 (pml (X k1 k2) (Y k1 k2) (I k1 k2)) _ _ U kR (hT om).2.1 ((hT om).2.2 k2 om) Ac U kR U _ U)<|Sy.callND 10 U kR kR 106 #[fv (s k1 k2),fv (eE s bm X Y I d k1 k2),pv (X k1 k2) (Y k1 k2) (I k1 k2)] kF ((CT (rPt (s k1 k2) (eE s bm X Y I d k1 k2) (X k1 k2) (Y k1 k2) (I k1 k2)))) (λw hw=>Eu w _ _ _ _ _ (hsc _ _) (Tj _ _) (hX _ _) (hY _ _)) (λvq Mq hR0=>?_)
      obtain ⟨q7,rfl,rfl⟩:=hR0
      refine Sy.movTD<|sZ 11 U (.slice (pA q7) 33 33)<|sE<|Sy.in_<|Sy.then_<|Sy.region<|sS (iZ (k2+1)) (qad U U U)<|sP (iZ (k2+1))<|Sy.nil ?_
      exact Sy.againT ((CO y2.1 k1 r2,(⟨some ⟨q7,0,none⟩,Aw (rPt (s k1 k2) (eE s bm X Y I d k1 k2) (X k1 k2) (Y k1 k2) (I k1 k2)),33⟩:Sh.Tx),[(q7,174,((Aw (rPt (s k1 k2) (eE s bm X Y I d k1 k2) (X k1 k2) (Y k1 k2) (I k1 k2))).map bv).toArray)])) om (⟨hh2.1.put' hr2 U,by rw [C6]; exact .inr ⟨Nat.succ_pos _,Ap _,q7,rfl,rfl⟩,λi hi=>(Nat.lt_succ_iff_lt_or_eq.1 hi).elim (hh2.2.2 i) (λh=>by rw [h]; exact hnorm)⟩) Ts (λw hw=>St.pick3 (pre:=[(g0,79,(As R NR cR bm).toArray),(g1,31,(AM d W NR cW).toArray),(g2,51,(Ar (CO y2.1 k1 r2) NR)),(g4,42,(fcs (s k1 k2))),(g5,42,(fcs (eE s bm X Y I d k1 k2))),(g6,42,(fcs (eE s bm X Y I d k1 k2))),(q7,174,((Aw (rPt (s k1 k2) (eE s bm X Y I d k1 k2) (X k1 k2) (Y k1 k2) (I k1 k2))).map bv).toArray)]) (M:=[(g0,79,(As R NR cR bm).toArray),(g1,31,(AM d W NR cW).toArray),(g2,51,(Ar (CO y2.1 k1 r2) NR))]) (N:=[(q7,174,((Aw (rPt (s k1 k2) (eE s bm X Y I d k1 k2) (X k1 k2) (Y k1 k2) (I k1 k2))).map bv).toArray)]) [0,1,2,6] dZ kR hw)
     ·have lb7:=dY hb7
      refine sT<|Sy.exit<|Sy.then_exit<|Sy.in_pass (by decide)<|Sy.then_exit<|Sy.then_exit<|Sy.in_pass (by decide)<|Sy.then_exit<|Sy.in_pass (by decide)<|Sy.then_exit<|Sy.then_exit<|Sy.in_exit<|Sy.then_<|Sy.seq<|Sy.seq<|Sy.regionD (λj=>false) kR<|sZ 0 U (y1.2.1.v)<|sD 1 U (iZ k1) (Quiet.lenR hh1.2.1.row (by rw [List.length_map]; exact hh1.2.2.2.1) _ Fd U U)<|sZ 2 U (pT g0 0)<|sD 3 U (.slice R NR cR) (Quiet.cell 0 g0 0 79 25 (As R NR cR bm).toArray _ _ U kR kR CY U _ kR)<|sZ 4 U (iZ NR) ?_
      obtain ⟨b8,hb8⟩:=xE (decide (k1≠NR))
      refine sD 5 U (.bool b8) (qne U U U hb8)<|sZ 6 U (.bool b8) ?_
      cases b8
      ·have lb8:=dN hb8
       exact absurd (show k1≠NR by omega) lb8
      ·have lb8:=dY hb8
       refine sQ 7 U<|sQ 8 U<|sQ 9 U<|sQ 10 U<|sQ 11 U<|sQ 12 U<|sZ 13 U (.bool true)<|sI<|sT<|sC<|sP (.slice none 0 0)<|sP (.bool false)<|sG<|Sy.ret<|Sy.then_ret<|Sy.sc_r ?_
       exact BJ [] rfl (v:=.slice none 0 0) (u:=.bool false) (.inl (show _=_ by kernel_rfl)) (.inl (show _=_ by kernel_rfl)) (λ_ hw=>hw.none) (.inl ⟨GP (by assumption) (IE (by assumption) lb7),rfl,rfl⟩)
   ·have lb5:=dY hb5
    refine sT<|Sy.exit<|Sy.then_exit<|Sy.in_pass (by decide)<|Sy.then_exit<|Sy.then_exit<|Sy.in_exit<|Sy.then_<|Sy.seq<|Sy.seq<|Sy.regionD (λj=>false) kR<|sZ 0 U (y1.2.1.v)<|sD 1 U (iZ k1) (Quiet.lenR hh1.2.1.row (by rw [List.length_map]; exact hh1.2.2.2.1) _ Fd U U)<|sZ 2 U (pT g0 0)<|sD 3 U (.slice R NR cR) (Quiet.cell 0 g0 0 79 25 (As R NR cR bm).toArray _ _ U kR kR CY U _ kR)<|sZ 4 U (iZ NR) ?_
    obtain ⟨b9,hb9⟩:=xE (decide (k1≠NR))
    refine sD 5 U (.bool b9) (qne U U U hb9)<|sZ 6 U (.bool b9) ?_
    cases b9
    ·have lb9:=dN hb9
     exact absurd (show k1≠NR by omega) lb9
    ·have lb9:=dY hb9
     refine sQ 7 U<|sQ 8 U<|sQ 9 U<|sQ 10 U<|sQ 11 U<|sQ 12 U<|sZ 13 U (.bool true)<|sI<|sT<|sC<|sP (.slice none 0 0)<|sP (.bool false)<|sG<|Sy.ret<|Sy.then_ret<|Sy.sc_r ?_
     exact BJ [] rfl (v:=.slice none 0 0) (u:=.bool false) (.inl (show _=_ by kernel_rfl)) (.inl (show _=_ by kernel_rfl)) (λ_ hw=>hw.none) (.inl ⟨GP (by assumption) (IF lb5),rfl,rfl⟩)
 ·have lb1:=dY hb1
  refine sT<|sC<|sP (.slice none 0 0)<|sP (.bool false)<|sG<|Sy.ret<|Sy.then_ret<|Sy.sc_r ?_
  exact BJ [] rfl (v:=.slice none 0 0) (u:=.bool false) (.inl (show _=_ by kernel_rfl)) (.inl (show _=_ by kernel_rfl)) (λ_ hw=>hw.none) (.inl ⟨Mb lb1,rfl,rfl⟩)
end Cu
end
section
namespace Sy
open Go.RowKit
section
variable {r:Nat→Slc} {n i:Nat} {pre A B C D M N T:AC} {b b':Nat×TypeId×Array Value} {v:Value} {w0:Base} {w:World}
theorem end_perm:((pre++(A++B))++D).Perm (pre++(A++(B++D))):=by
 rw [List.append_assoc,List.append_assoc]
theorem end_perm3:((pre++(A++(B++C)))++D).Perm (pre++(A++(B++(C++D)))):=by
 rw [List.append_assoc,List.append_assoc,List.append_assoc]
theorem out1 (r:Nat→Slc) (hi:i<n) (hb:(r i).bl=[b]):(pre++(Av r n++T)).Perm ((pre++[b])++(Dy r n i++T)):=by
 have h:=out_perm (pre:=pre) (T:=T) r hi
 rw [hb] at h
 rwa [List.append_assoc]
theorem St.back1 (hi:i<n) (hw:St w0 w ((M++[b'])++(Dy r n i++T))):St w0 w (M++(Av (CO r i ⟨v,[b']⟩) n++[])):=by
 have h1:((M++[b'])++(Dy r n i++[])).Sublist ((M++[b'])++(Dy r n i++T)):=(List.Sublist.refl _).append ((List.Sublist.refl _).append (List.nil_sublist _))
 refine (hw.less h1).perm ?_
 rw [List.append_assoc]
 exact in_perm (x:=⟨v,[b']⟩) hi
theorem K0 {x:Slc} (h:x.v=(r i).v):Ar (CO r i x) n=Ar r n:=by
 unfold Ar
 refine congrArg List.toArray (Bq λj _=>?_)
 by_cases hj:j=i
 ·rw [hj,Cm,h]
 ·rw [DO hj]
theorem RowsAre.upd {e:TypeId} {sz:Nat} {f f':Nat→Nat→List Value} {c:Nat→Nat} {x:Slc} (h:RowsAre r e sz f c) (hx:x.Is e sz ((List.range (c i)).map (f' i))) (hf:∀ j,j≠i→f' j=f j):RowsAre (CO r i x) e sz f' c:=λj=>by
 by_cases hj:j=i
 ·subst hj; rw [Cm]; exact hx
 ·rw [DO hj,hf j hj]; exact h j
theorem St.pick4 (is:List Nat) (hn:is.Nodup) (hm:is.map (λi=>pre[i]?)=(M++N).map some) (hw:St w0 w (pre++(A++(B++(C++D))))):St w0 w (M++(A++(B++(C++(D++N))))):=by
 have h2:=St.pick2 (a:=A++B) (T:=C++D) is hn hm (by rwa [List.append_assoc])
 rwa [List.append_assoc,List.append_assoc C] at h2
end
theorem Slc.Is.open {r:Slc} {e:TypeId} {sz m:Nat} {f:Nat→List Value} (h:r.Is e sz ((List.range m).map f)) (hm:0<m):∃ g cap sp,r.v=.slice (pA g) m cap∧r.bl=[(g,e,(AO f m++sp).toArray)]∧sp.length+m*sz=cap*sz∧m≤cap∧cap≤maxLen:=by
 rcases h.row with ⟨h0,_⟩ | ⟨g,cap,sp,rfl,h1,h2,h3⟩
 ·have:=congrArg List.length h0
  simp at this
  omega
 ·rw [List.length_map,List.length_range] at h1 h2
  exact ⟨g,cap,sp,by rw [List.length_map,List.length_range],by rw [show ((List.range m).map f).flatten=AO f m from (List.flatMap_def ..).symm],h1,h2,h3⟩
theorem Slc.Is.close {e:TypeId} {sz m g cap:Nat} {f:Nat→List Value} {sp:List Value} (hf:∀ k,(f k).length=sz) (h1:∀ k, ∀ u∈f k,u.oneCell'=true) (hs:sp.length+m*sz=cap*sz) (hm:m≤cap) (hc:cap≤maxLen):Slc.Is ⟨.slice (pA g) m cap,[(g,e,(AO f m++sp).toArray)]⟩ e sz ((List.range m).map f) :=
 ⟨λx hx=>by obtain ⟨k,_,rfl⟩:=List.mem_map.1 hx; exact hf k,λx hx=>by obtain ⟨k,_,rfl⟩:=List.mem_map.1 hx; exact h1 k,.inr ⟨g,cap,sp,by rw [List.length_map,List.length_range,show ((List.range m).map f).flatten=AO f m from (List.flatMap_def ..).symm],by rw [List.length_map,List.length_range]; exact hs,by rw [List.length_map,List.length_range]; exact hm,hc⟩⟩
theorem Iy {w0:Base} {w:World} {L:AC} {g sz m:Nat} {e:TypeId} {f:Nat→List Value} {sp:List Value} (hf:∀ k,(f k).length=sz) (hw:St w0 w L) (hb:(g,e,(AO f m++sp).toArray)∈L):Lst w sz (pA g) m f:=by
 have hbk:=(hw.blk _ _ _ hb).2
 refine ⟨g,0,λ_=>⟨rfl,hbk.lt,λj hj=>?_⟩⟩
 rw [Nat.zero_add]
 refine CF hbk ?_
 show (((AO f m++sp)).drop (j*sz)).take _=_
 rw [hf j,DJ hj,List.append_assoc,List.drop_append_of_le_length (by rw [A1 hf]; exact Nat.le_refl _),List.drop_of_length_le (by rw [A1 hf]; exact Nat.le_refl _),List.nil_append,List.append_assoc,List.take_left' (hf j)]
theorem Na {f:Nat→List Value} {sz m k o:Nat} {sp v:List Value} (hf:∀ k,(f k).length=sz) (hv:v.length=sz) (hk:k<m) (ho:o=0+k*sz):setAll (AO f m++sp).toArray o v=(AO (λj=>if j=k then v else f j) m++sp).toArray:=by
 have hl:=A1 hf m
 have hkm:k*sz+sz≤m*sz:=by have:=Nat.mul_le_mul_right sz (show k+1≤m from hk); rwa [Nat.succ_mul] at this
 have h1:=Cl v o (AO f m++sp).toArray (by rw [List.size_toArray,List.length_append]; omega)
 have h2:=Cl v o (AO f m).toArray (by rw [List.size_toArray]; omega)
 have h3:=Ha (f:=f) hf hv hk (show o=k*sz by omega)
 rw [h2] at h3
 have h4:=congrArg Array.toList h3
 rw [h1]
 refine congrArg List.toArray ?_
 simp only at h4 ⊢
 rw [← h4,List.take_append_of_le_length om,List.drop_append_of_le_length om,List.append_assoc,List.append_assoc]
theorem IU {f:Nat→List Value} {sz m k o:Nat} {sp:List Value} (hf:∀ k,(f k).length=sz) (hk:k<m) (ho:o=0+k*sz):o+sz≤(AO f m++sp).toArray.size:=by
 have hkm:k*sz+sz≤m*sz:=by have:=Nat.mul_le_mul_right sz (show k+1≤m from hk); rwa [Nat.succ_mul] at this
 rw [List.size_toArray,List.length_append,A1 hf]
 omega
end Sy
end
section
namespace Cu
open Go.RowKit Sy
def CA (z:Int) (x:Nat):List Value:=.int .i64 z::fws x
section
variable (At:Nat→Int) (sx:Nat→Nat) (n:Nat→Nat) (X Y:Nat→Nat→Nat) (I:Nat→Nat→Bool)
def GB (i:Nat):Bool:=decide (0≤At i) && (decide (At i<(n i:Int)) && DD (sx i) (X i (At i).toNat) (Y i (At i).toNat) (I i (At i).toNat))
def D2 (NS NR:Nat):Bool:=decide (NS=NR) && (List.range NR).all (GB At sx n X Y I)
end
section
variable {At:Nat→Int} {sx:Nat→Nat} {n:Nat→Nat} {X Y:Nat→Nat→Nat} {I:Nat→Nat→Bool} {NS NR k q:Nat}
theorem Q8 (h:At k<0):GB At sx n X Y I k=false:=by unfold GB; rw [decide_eq_false (by omega:¬ 0≤At k)]; rfl
theorem PA (h:At k ≥ ((n k:Nat):Int)):GB At sx n X Y I k=false:=by unfold GB; rw [decide_eq_false (by omega:¬ At k<(n k:Int)),Bool.false_and,Bool.and_false]
theorem Lc (h1:¬ At k<0) (h2:¬ At k ≥ ((n k:Nat):Int)) (hq:At k=(q:Int)):GB At sx n X Y I k=DD (sx k) (X k q) (Y k q) (I k q):=by
 unfold GB
 rw [decide_eq_true (by omega:0≤At k),decide_eq_true (by omega:At k<(n k:Int)),hq]
 rfl
theorem PB (h:¬ NS=NR):D2 At sx n X Y I NS NR=false:=by unfold D2; rw [decide_eq_false h]; rfl
theorem JJ (hk:k<NR) (h:GB At sx n X Y I k=false):D2 At sx n X Y I NS NR=false:=by
 unfold D2
 rw [show (List.range NR).all (GB At sx n X Y I)=false from List.all_eq_false.2 ⟨k,List.mem_range.2 hk,by rw [h]; decide⟩,Bool.and_false]
theorem KK (h1:NS=NR) (h:∀ j,j<NR→GB At sx n X Y I j=true):D2 At sx n X Y I NS NR=true:=by
 unfold D2
 rw [decide_eq_true h1,List.all_eq_true.2 λj hj=>h j (List.mem_range.1 hj)]
 rfl
end
theorem Q9 (w:World) (S:Option Addr) (NS cS:Nat) (At:Nat→Int) (sx:Nat→Nat) (hsx:∀ i,sx i<K4) (hNS:NS≤4611686018427387904) (hls:Lst w 5 S NS (λi=>CA (At i) (sx i))) (R:Option Addr) (NR cR:Nat) (a:Nat→Option Addr) (n c:Nat→Nat) (X Y:Nat→Nat→Nat) (I:Nat→Nat→Bool) (hX:∀ i k,X i k<K4) (hY:∀ i k,Y i k<K4) (hNR:NR≤4611686018427387904) (hn:∀ i,n i≤4611686018427387904) (hlr:Lst w 1 R NR (λi=>[.slice (a i) (n i) (c i)])) (hlk:∀ i,i<NR→Lst w 9 (a i) (n i) (λk=>pml (X i k) (Y i k) (I i k))):Calls Tryz.prog 37 #[.slice S NS cS,.slice R NR cR] w (Gets w (.bool (D2 At sx n X Y I NS NR))):=by
 have hls0:=hls
 obtain ⟨gS,oS,hS⟩:=hls
 have hlr0:=hlr
 obtain ⟨gR,oR,hR⟩:=hlr
 refine Sy.enter (args:=[.slice S NS cS,.slice R NR cR]) Tryz.func37 U kL<|sC<|sP (.bool false)<|sG<|Sy.seq<|sC<|sP (.slice S NS cS)<|sP (iZ NS)<|sP (.slice R NR cR)<|sP (iZ NR) ?_
 obtain ⟨b1,hb1⟩:=xE (decide (NS≠NR))
 refine sS (.bool b1) (qne U U U hb1)<|sG ?_
 cases b1
 ·have lb1:=dN hb1
  refine sU<|Sy.skip<|Sy.then_<|Sy.seq<|sC<|sP (.slice R NR cR)<|sP (iZ NR)<|sP (.int .i64 0)<|sG<|Sy.block<|Sy.loopH NR (λk1=>∀ j,j<k1→GB At sx n X Y I j=true) (λk1=>[(0,.slice S NS cS),(1,.slice R NR cR),(13,.slice R NR cR),(14,iZ NR),(15,iZ k1)]) (λk1=>[]) [] (M:=[]) (λj hj=>absurd hj (Nat.not_lt_zero _)) ac5 kR U (λk1 hk1 hh=>?_)
  have hh1:=hh
  refine sC ?_
  obtain ⟨b2,hb2⟩:=xE (decide (k1<NR))
  refine sS (.bool b2) (qls U U U hb2)<|sG<|Sy.seq ?_
  cases b2
  ·have lb2:=dN hb2
   refine sU<|Sy.exit<|Sy.then_exit<|Sy.then_exit ?_
   obtain rfl:NR=k1:=om
   refine Sy.in_exit<|sB<|sP (.bool true)<|sG<|Sy.ret ?_
   rw [show (.bool (D2 At sx n X Y I NS NR):Value)=.bool true from by rw [KK om (λj hj=>hh1 j om)]]
   exact rV (.bool true) rfl
  ·have lb2:=dY hb2
   refine sT<|Sy.skip<|Sy.then_<|Sy.seq<|Sy.block<|sC<|sP (iZ k1)<|sS (.pointer (some ⟨gR,oR+k1*1,none⟩)) (Quiet.pure (AJ 25 _ _ _ R gR oR NR cR k1 1 .i64 (hR om).1 U U U CY kF om))<|sS (.slice (a k1) (n k1) (c k1)) (Quiet.thereOne gR (oR+k1*1) 45 _ _ U kR (hR om).2.1 _ (AR ((hR om).2.2 k1 om) 0 U) CH U)<|sP (iZ k1)<|sP (.slice (a k1) (n k1) (c k1))<|sA<|sP (.slice S NS cS)<|sP (iZ k1)<|sS (.pointer (some ⟨gS,oS+k1*5,none⟩)) (Quiet.pure (AJ 26 _ _ _ S gS oS NS cS k1 5 .i64 (hS om).1 U U U Pz kF om))<|sP (.pointer (some ⟨gS,oS+k1*5+0,none⟩))<|sS (.int .i64 (At k1)) (Quiet.thereOne gS (oS+k1*5+0) 3 _ _ U kR (hS om).2.1 _ (AR ((hS om).2.2 k1 om) 0 U) uy3 U)<|sP (.int .i64 (At k1))<|sH (λj=>false) ?_
   refine sZ 0 U (.int .i64 (At k1)) ?_
   obtain ⟨b3,hb3⟩:=xE (decide ((At k1)<0))
   refine sD 1 U (.bool b3) (Quiet.pure (AU .lss _ _ _ .i64 _ _ _ U U U (JD _ _ _ _ _ hb3.symm)))<|sZ 2 U (.bool b3) ?_
   cases b3
   ·have lb3:=dN hb3
    refine sZ 3 U (.int .i64 (At k1))<|sZ 4 U (.slice (a k1) (n k1) (c k1))<|sZ 5 U (iZ ((n k1))) ?_
    obtain ⟨b4,hb4⟩:=xE (decide ((At k1) ≥ (((n k1):Nat):Int)))
    refine sD 6 U (.bool b4) (Quiet.pure (AU .geq _ _ _ .i64 _ _ _ U U U (ET _ _ _ _ _ hb4.symm)))<|sZ 7 U (.bool b4)<|sZ 8 U (.bool b4) ?_
    cases b4
    ·have lb4:=dN hb4
     refine sZ 9 U (.slice S NS cS)<|sZ 10 U (iZ k1)<|sD 11 U (.pointer (some ⟨gS,oS+k1*5,none⟩)) (Quiet.pure (AJ 26 _ _ _ S gS oS NS cS k1 5 .i64 (hS om).1 U U U Pz kF om))<|sZ 12 U (.pointer (some ⟨gS,oS+k1*5+1,none⟩))<|sD 13 U (fv (sx k1)) (Quiet.there gS (oS+k1*5+1) 4 42 (fws (sx k1)) _ _ U kR (hS om).2.1 (M2 ((hS om).2.2 k1 om) 1 U) Ak U kR U _ U)<|sZ 14 U (.slice (a k1) (n k1) (c k1))<|sZ 15 U (.int .i64 (At k1)) ?_
     obtain ⟨gK,oK,hT⟩:=hlk k1 om
     obtain ⟨q1,hq1⟩:∃ q:Nat,(At k1)=(q:Int):=⟨((At k1)).toNat,by omega⟩
     refine sD 16 U (.pointer (some ⟨gK,oK+q1*9,none⟩)) (Quiet.pure (AJ 45 _ _ _ (a k1) gK oK (n k1) (c k1) q1 9 .i64 (hT om).1 U U (show Value.int .i64 (At k1)=iZ q1 from by rw [hq1]) CH kF om))<|sD 17 U (pv (X k1 q1) (Y k1 q1) (I k1 q1)) (Quiet.there gK (oK+q1*9) 9 48 (pml (X k1 q1) (Y k1 q1) (I k1 q1)) _ _ U kR (hT om).2.1 ((hT om).2.2 q1 om) Ac U kR U _ U) ?_
     obtain ⟨b5,hb5⟩:=xE (DD (sx k1) (X k1 q1) (Y k1 q1) (I k1 q1))
     refine sD 18 U (.bool b5) (qF 93 #[fv (sx k1),pv (X k1 q1) (Y k1 q1) (I k1 q1)] (λw=>by rw [hb5]; exact NC w _ _ _ _ (hsx k1) (hX k1 q1) (hY k1 q1))) ?_
     cases b5
     ·refine sZ 19 U (.bool true)<|sZ 20 U (.bool true) ?_
      refine sI<|sT<|sC<|sP (.bool false)<|sG<|Sy.ret<|Sy.in_ret<|Sy.then_ret<|Sy.then_ret<|Sy.in_ret<|Sy.then_ret ?_
      rw [show (.bool (D2 At sx n X Y I NS NR):Value)=.bool false from by rw [JJ om ((Lc lb3 lb4 hq1).trans hb5.symm)]]
      exact rV (.bool false) rfl
     ·refine sZ 19 U (.bool false)<|sZ 20 U (.bool false) ?_
      refine sI<|sU<|Sy.skip<|Sy.in_<|Sy.then_<|Sy.region<|sS (iZ (k1+1)) (qad U U U)<|sP (iZ (k1+1))<|Sy.nil ?_
      exact Sy.againH [] (M:=[]) om (λj hj=>(Nat.lt_succ_iff_lt_or_eq.1 hj).elim (hh1 j) (λh=>by rw [h]; exact (Lc lb3 lb4 hq1).trans hb5.symm)) ac5 kR U
    ·have lb4:=dY hb4
     refine sQ 9 U<|sQ 10 U<|sQ 11 U<|sQ 12 U<|sQ 13 U<|sQ 14 U<|sQ 15 U<|sQ 16 U<|sQ 17 U<|sQ 18 U<|sQ 19 U<|sZ 20 U (.bool true)<|sI<|sT<|sC<|sP (.bool false)<|sG<|Sy.ret<|Sy.in_ret<|Sy.then_ret<|Sy.then_ret<|Sy.in_ret<|Sy.then_ret ?_
     rw [show (.bool (D2 At sx n X Y I NS NR):Value)=.bool false from by rw [JJ om (PA lb4)]]
     exact rV (.bool false) rfl
   ·have lb3:=dY hb3
    refine sQ 3 U<|sQ 4 U<|sQ 5 U<|sQ 6 U<|sZ 7 U (.bool true)<|sZ 8 U (.bool true)<|sQ 9 U<|sQ 10 U<|sQ 11 U<|sQ 12 U<|sQ 13 U<|sQ 14 U<|sQ 15 U<|sQ 16 U<|sQ 17 U<|sQ 18 U<|sQ 19 U<|sZ 20 U (.bool true)<|sI<|sT<|sC<|sP (.bool false)<|sG<|Sy.ret<|Sy.in_ret<|Sy.then_ret<|Sy.then_ret<|Sy.in_ret<|Sy.then_ret ?_
    rw [show (.bool (D2 At sx n X Y I NS NR):Value)=.bool false from by rw [JJ om (Q8 lb3)]]
    exact rV (.bool false) rfl
 ·have lb1:=dY hb1
  refine sT<|sC<|sP (.bool false)<|sG<|Sy.ret<|Sy.then_ret ?_
  rw [show (.bool (D2 At sx n X Y I NS NR):Value)=.bool false from by rw [PB lb1]]
  exact rV (.bool false) rfl
end Cu
end
section
namespace Cu
open Go.RowKit Sy
section
variable (bm sd:List UInt8) (X Y:Nat→Nat→Nat) (I:Nat→Nat→Bool) (at_:Nat→Nat) (nk:Nat→Nat) (sx:Nat→Nat)
def sgX (i:Nat):List UInt8:=Aw (evP (rgN bm sd i))
def sgL (i:Nat):List UInt8:=alX (rgF bm sd i) bm i (at_ i+1) (X i) (Y i) (I i) (sgX bm sd i) (nk i - (at_ i+1))
def El:Nat→List UInt8
 | 0=>[]
 | k+1=>El k++sgL bm sd X Y I at_ nk k
def sgD (NR:Nat):List UInt8:=rgT bm (El bm sd X Y I at_ nk NR)
def sgE (d:List UInt8) (i:Nat):Nat:=rgC bm (alX (rgF bm sd i) bm i 0 (X i) (Y i) (I i) d (at_ i)) i (at_ i)
def sgS (d:List UInt8) (i j:Nat):Nat:=if j=at_ i then Sc.subP (rgN bm sd i) (Sc.mulP (sgE bm sd X Y I at_ d i) (sx i)) else rgF bm sd i j
def sgK (d:List UInt8) (k i j:Nat):List Value:=fws (if i<k then sgS bm sd X Y I at_ sx d i j else rgF bm sd i j)
def sgF (d:List UInt8) (i j:Nat):List Value:=fws (sgS bm sd X Y I at_ sx d i j)
end
section
variable {bm sd:List UInt8} {X Y:Nat→Nat→Nat} {I:Nat→Nat→Bool} {at_:Nat→Nat} {nk:Nat→Nat} {sx:Nat→Nat} {d:List UInt8}
theorem Ix (i:Nat):(sgX bm sd i).length=33:=Ap _
theorem Sv {s:Nat→Nat} {i f k:Nat} {X Y:Nat→Nat} {I:Nat→Bool} {x:List UInt8} (h:x.length=33):(alX s bm i f X Y I x k).length=33:=by
 rcases Nat.eq_zero_or_pos k with h0 | h0
 ·rw [h0]; exact h
 ·exact GS h0
theorem L9 (i:Nat):(sgL bm sd X Y I at_ nk i).length=33:=Sv (Ix i)
theorem Gh:∀ k,(El bm sd X Y I at_ nk k).length=33*k
 | 0=>rfl
 | k+1=>by
  show (El bm sd X Y I at_ nk k++_).length=_
  rw [List.length_append,Gh k,L9]
  omega
theorem E2 (NR:Nat):(sgD bm sd X Y I at_ nk NR).length=32:=GH _ _
theorem R7 (i j:Nat):sgS bm sd X Y I at_ sx d i j<K4:=by
 unfold sgS
 split
 ·exact Sc.subP_lt _ _
 ·exact Gp _ _ _ _
theorem OI:sgK bm sd X Y I at_ sx d 0=fkF bm sd:=by
 funext i j
 unfold sgK fkF
 rw [if_neg (Nat.not_lt_zero _)]
theorem SA (k:Nat):sgK bm sd X Y I at_ sx d k k=λj=>fws (rgF bm sd k j):=by
 funext j
 unfold sgK
 rw [if_neg (Nat.lt_irrefl _)]
theorem R_ {k i:Nat} (h:i≠k):sgK bm sd X Y I at_ sx d (k+1) i=sgK bm sd X Y I at_ sx d k i:=by
 funext j
 unfold sgK
 by_cases h1:i<k
 ·rw [if_pos h1,if_pos om]
 ·rw [if_neg h1,if_neg om]
theorem QF {r:Nat→Slc} {e:TypeId} {NR:Nat} (h:RowsAre r e 4 (sgK bm sd X Y I at_ sx d NR) (Bw nk NR 0)):RowsAre r e 4 (sgF bm sd X Y I at_ sx d) (Bw nk NR 0):=λi=>by
 have q:=h i
 by_cases hi:i<NR
 ·have e:sgK bm sd X Y I at_ sx d NR i=sgF bm sd X Y I at_ sx d i:=by
   funext j
   unfold sgK sgF
   rw [if_pos hi]
  rwa [e] at q
 ·have e:Bw nk NR 0 i=0:=by unfold Bw; rw [if_neg hi]; split <;> rfl
  rw [e,List.range_zero,List.map_nil] at q ⊢
  exact q
theorem QE (k:Nat):(λj=>if j=at_ k then fws (Sc.subP (rgN bm sd k) (Sc.mulP (sgE bm sd X Y I at_ d k) (sx k))) else fws (rgF bm sd k j))=sgK bm sd X Y I at_ sx d (k+1) k:=by
 funext j
 unfold sgK sgS
 rw [if_pos (Nat.lt_succ_self k)]
 split <;> rfl
end
theorem AlR.tx {A:Option Addr} {n c M:Nat} {l:List UInt8} {v:Value} {Mq:AC} (h:AlR A n c M l v Mq) (hl:0<M→l.length=33) {w0:Base} (T0:AC) (h0:M=0→l.length=n∧n≤c∧c≤33∧∀ w L,St w0 w L→(∀ b∈T0,b∈L)→Sh.Src w A l) :
  ∃ (B:Option Addr) (k:Nat),v=.slice B (if M=0 then n else 33) k∧l.length=(if M=0 then n else 33)∧l.length≤k∧k≤33∧∀ w L,St w0 w L→(∀ b∈T0++Mq,b∈L)→Sh.Src w B l:=by
 rcases h with ⟨h1,rfl,rfl⟩ | ⟨h1,q,rfl,rfl⟩
 ·obtain ⟨a1,a2,a3,a4⟩:=h0 h1
  exact ⟨A,c,by rw [if_pos h1],by rw [if_pos h1,a1],by omega,a3,λw L hw hb=>a4 w L hw (λb h=>hb b (List.mem_append.2 (.inl h)))⟩
 ·have hne:¬ M=0:=om
  have hl:=hl h1
  exact ⟨_,33,by rw [if_neg hne],by rw [if_neg hne,hl],by omega,Nat.le_refl _,λw L hw hb=>Sh.Src.of_blk (hw.blk _ _ _ (hb _ (List.mem_append.2 (.inr (List.mem_singleton.2 U))))).2⟩
theorem R9 {bm sd:List UInt8} {X Y:Nat→Nat→Nat} {I:Nat→Nat→Bool} {at_ nk:Nat→Nat} {q7 i:Nat} {v:Value} {Mq:AC} {w0:Base} (h:AlR (pA q7) 33 33 (nk i - (at_ i+1)) (sgL bm sd X Y I at_ nk i) v Mq) :
  ∃ (B:Option Addr) (k:Nat),v=.slice B 33 k∧(sgL bm sd X Y I at_ nk i).length=33∧(sgL bm sd X Y I at_ nk i).length≤k∧k≤33∧∀ w L,St w0 w L→(∀ b∈[(q7,174,((sgX bm sd i).map bv).toArray)]++Mq,b∈L)→Sh.Src w B (sgL bm sd X Y I at_ nk i):=by
 have q:=AlR.tx (w0:=w0) h (λ_=>L9 i) [(q7,174,((sgX bm sd i).map bv).toArray)] (λh0=>by
  have e:sgL bm sd X Y I at_ nk i=sgX bm sd i:=by
   unfold sgL
   rw [h0]
   rfl
  rw [e]
  exact ⟨Ix _,by decide,by decide,λv L hv hb=>Sh.Src.of_blk (hv.blk _ _ _ (hb _ (List.mem_singleton.2 U))).2⟩)
 rw [ite_self] at q
 exact q
theorem R6 {z d:List UInt8} {W:Option Addr} {N c:Nat} (hz:z.length=32) (hd:d.length=32):setAll (AM z W N c).toArray 0 (d.map bv).toArray.toList=(AM d W N c).toArray:=by
 have h:=Cl (d.map bv) 0 (AM z W N c).toArray (by rw [List.size_toArray,Ag hz,List.length_map,hd]; decide)
 rw [show (d.map bv).toArray.toList=d.map bv from rfl,h]
 refine congrArg List.toArray ?_
 simp only [List.take_zero,List.nil_append,List.length_map,hd]
 unfold AM
 rw [List.drop_left' (by rw [List.length_map,hz])]
def JV (d:List UInt8) (f:Nat→Nat→List Value) (nk:Nat→Nat) (NR:Nat) (v:Value) (M:AC):Prop:=∃ g r,v=AX d (pA g) NR NR∧M=(g,51,Ar r NR)::Av r NR∧RowsAre r 42 4 f (Bw nk NR 0)
theorem Mw (w:World) (R:Option Addr) (NR cR:Nat) (a:Nat→Option Addr) (nk ck:Nat→Nat) (X Y:Nat→Nat→Nat) (I:Nat→Nat→Bool) (hX:∀ i k,X i k<K4) (hY:∀ i k,Y i k<K4) (hNR:NR≤4611686018427387904) (hnk:∀ i,nk i≤4611686018427387904) (hlr:Lst w 1 R NR (λi=>[.slice (a i) (nk i) (ck i)])) (hlk:∀ i,i<NR→Lst w 9 (a i) (nk i) (λk=>pml (X i k) (Y i k) (I i k))) (hN32:NR≤32) (hn64:∀ i,i<NR→nk i≤64) (hn1:∀ i,i<NR→1≤nk i) (bm:List UInt8) (hbm:bm.length=32) (sd:List UInt8) (hsd:sd.length=32) (S:Option Addr) (cS:Nat) (at_:Nat→Nat) (sx:Nat→Nat) (hsx:∀ i,sx i<K4) (hls:Lst w 5 S NR (λi=>CA ((at_ i:Nat):Int) (sx i))) (hat:∀ i,i<NR→at_ i<nk i) (ht:Sh.TabAt w 1):Calls Tryz.prog 39 #[BD R NR cR bm,.agg (sd.map bv).toArray,.slice S NR cS] w (GetsN w (JV (sgD bm sd X Y I at_ nk NR) (sgF bm sd X Y I at_ sx (sgD bm sd X Y I at_ nk NR)) nk NR)):=by
 have hlr0:=hlr
 obtain ⟨gR,oR,hR⟩:=hlr
 obtain ⟨gQ,oQ,hQ⟩:=hls
 refine Sy.enter (args:=[BD R NR cR bm,.agg (sd.map bv).toArray,.slice S NR cS]) Tryz.func39 U kL<|sC<|sM 79 (As R NR cR bm).toArray (λg0=>?_)
 refine sM 23 (sd.map bv).toArray (λg1=>?_)
 refine sM 31 zS33.toArray (λg2=>?_)
 refine sA<|sS (BD R NR cR bm) (Quiet.load 0 g0 0 33 79 79 (As R NR cR bm).toArray _ _ U kR kR Ez U kR _ (BQ hbm) (Bx hbm))<|sS (.agg (sd.map bv).toArray) (Quiet.load 1 g1 0 32 23 23 (sd.map bv).toArray _ _ U kR kR D6 U kR _ (CW sd hsd) (Ct sd hsd))<|Sy.callN kR 96 #[BD R NR cR bm,.agg (sd.map bv).toArray] kF (F0 51 42 4 (fkF bm sd) (Bw nk NR 0) NR) (λw hw=>Le w R NR cR a nk ck X Y I hX hY hNR hnk (hlr0.below hw.below) (λi hi=>(hlk i hi).below hw.below) hN32 hn64 bm hbm sd hsd (ht.below hw.below ht.lt)) (λvq Mq hR0=>?_)
 obtain ⟨gF,r0,rfl,rfl,hr0⟩:=hR0
 refine Sy.permS (M:=[(g0,79,(As R NR cR bm).toArray),(g1,23,(sd.map bv).toArray),(g2,31,zS33.toArray),(gF,51,(Ar r0 NR))]++(Av r0 NR++(nilS.bl++[]))) (by show List.Perm _ ([(g0,79,(As R NR cR bm).toArray),(g1,23,(sd.map bv).toArray),(g2,31,zS33.toArray),(gF,51,(Ar r0 NR))]++(Av r0 NR++[])); rw [List.append_nil]; exact List.Perm.refl _)<|sP (AX (List.replicate 32 (0:UInt8)) (pA gF) NR NR)<|sM 31 zS33.toArray (λg3=>?_)
 refine Sy.movT<|sW 4 g3 31 zS33.toArray (AM (List.replicate 32 (0:UInt8)) (pA gF) NR NR).toArray (Writes.row 31 (AM (List.replicate 32 (0:UInt8)) (pA gF) NR NR) 33 _ _ U kR kR kR (Ag List.length_replicate) (by rw [List.size_toArray,Ag List.length_replicate]) BV)<|Sy.setT<|sA<|sP (.slice none 0 0)<|sG<|Sy.seq<|sC<|sP (.slice S NR cS)<|sP (iZ NR)<|sP (.int .i64 0)<|sG<|Sy.block<|Sy.loopT (Y:=Slc×AC×List Sh.Tx) NR (λk1 y1=>[(2,.slice S NR cS),(3,pT g0 0),(4,pT g1 0),(6,pT g2 0),(7,pT g3 0),(8,y1.1.v),(20,.slice S NR cS),(21,iZ NR),(22,iZ k1)]) (λk1 y1=>[(g0,79,(As R NR cR bm).toArray),(g1,23,(sd.map bv).toArray),(g2,31,zS33.toArray),(gF,51,(Ar r0 NR)),(g3,31,(AM (List.replicate 32 (0:UInt8)) (pA gF) NR NR).toArray)]++(Av r0 NR++(y1.1.bl++y1.2.1))) (λk1 y1=>TxsIs (Base.of w) 24 y1.1 y1.2.1 y1.2.2∧Sh.cat y1.2.2=El bm sd X Y I at_ nk k1∧y1.2.2.length=k1) (nilS,[],[]) ⟨TxsIs.nil _ _,rfl,rfl⟩ ac9 (λw hw=>hw) (λk1 y1 hk1 hh1=>?_)
 refine sC ?_
 obtain ⟨b1,hb1⟩:=xE (decide (k1<NR))
 refine sS (.bool b1) (qls U U U hb1)<|sG<|Sy.seq ?_
 cases b1
 ·have lb1:=dN hb1
  refine sU<|Sy.exit<|Sy.then_exit<|Sy.then_exit ?_
  obtain rfl:NR=k1:=om
  refine Sy.in_exit<|sB<|sS (BD R NR cR bm) (Quiet.load 0 g0 0 33 79 79 (As R NR cR bm).toArray _ _ U kR kR Ez U kR _ (BQ hbm) (Bx hbm))<|sP (y1.1.v) ?_
  obtain ⟨d0,hd0⟩:=xE (sgD bm sd X Y I at_ nk NR)
  have hdl:d0.length=32:=by rw [hd0]; exact E2 _
  refine sS (.agg (d0.map bv).toArray) (Quiet.callS 101 #[BD R NR cR bm,y1.1.v] kF (λw hw=>by obtain ⟨Q,dd,hv,hc9,_,htx⟩:=hh1.1.texts; rw [hv,hd0]; have hel:=Gh (bm:=bm) (sd:=sd) (X:=X) (Y:=Y) (I:=I) (at_:=at_) (nk:=nk) NR; have q:=Hb w R NR cR bm hbm Q _ dd y1.2.2 (htx hw (λb hb=>List.mem_append.2 (.inr (List.mem_append.2 (.inr (List.mem_append.2 (.inl hb)))))) (λb hb=>List.mem_append.2 (.inr (List.mem_append.2 (.inr (List.mem_append.2 (.inr hb))))))) (hh1.1.ok w _ hw (λb hb=>List.mem_append.2 (.inr (List.mem_append.2 (.inr (List.mem_append.2 (.inr hb))))))) U hc9 om (by rw [hh1.2.1]; omega) (ht.below hw.below ht.lt); rw [hh1.2.1] at q; exact q))<|sP (pT g3 0)<|sW 4 g3 31 (AM (List.replicate 32 (0:UInt8)) (pA gF) NR NR).toArray (AM d0 (pA gF) NR NR).toArray (Writes.store 0 23 (d0.map bv).toArray _ _ U kR kR (by rw [DI d0 hdl]; kernel_rfl) (by rw [DI d0 hdl,List.size_toArray,Ag List.length_replicate]; decide) (E' _) (R6 List.length_replicate hdl))<|Sy.setT<|sG<|Sy.seq<|sC<|sP (.slice S NR cS)<|sP (iZ NR)<|sP (.int .i64 0)<|sG<|Sy.block<|Sy.loopT (Y:=Nat→Slc) NR (λk1 y1=>[(3,pT g0 0),(4,pT g1 0),(6,pT g2 0),(7,pT g3 0),(60,.slice S NR cS),(61,iZ NR),(62,iZ k1)]) (λk1 y1=>[(g0,79,(As R NR cR bm).toArray),(g1,23,(sd.map bv).toArray),(g2,31,zS33.toArray),(gF,51,(Ar y1 NR)),(g3,31,(AM d0 (pA gF) NR NR).toArray)]++(Av y1 NR++[])) (λk1 y1=>RowsAre y1 42 4 (sgK bm sd X Y I at_ sx d0 k1) (Bw nk NR 0)) r0 (by rw [OI]; exact hr0) ac7 (λw hw=>(hw.less ((List.Sublist.refl _).append ((List.Sublist.refl _).append (List.nil_sublist _))))) (λk1 y1 hk1 hh1=>?_)
  refine sC ?_
  obtain ⟨b2,hb2⟩:=xE (decide (k1<NR))
  refine sS (.bool b2) (qls U U U hb2)<|sG<|Sy.seq ?_
  cases b2
  ·have lb2:=dN hb2
   refine sU<|Sy.exit<|Sy.then_exit<|Sy.then_exit ?_
   obtain rfl:NR=k1:=om
   refine Sy.in_exit<|sB<|sS (AX d0 (pA gF) NR NR) (Quiet.load 4 g3 0 33 31 31 (AM d0 (pA gF) NR NR).toArray _ _ U kR kR C8 U kR _ (C_ hdl) (Ek hdl))<|sW 2 g2 31 zS33.toArray (AM d0 (pA gF) NR NR).toArray (Writes.row 31 (AM d0 (pA gF) NR NR) 33 _ _ U kR kR kR (Ag hdl) (by rw [List.size_toArray,Ag List.length_replicate]) BV)<|Sy.setT<|sG<|Sy.ret ?_
   exact Dz ((gF,51,Ar y1 NR)::Av y1 NR) rfl (v:=AX d0 (pA gF) NR NR) (.inl (Res.cell (ty':=31) g2 2 (AM d0 (pA gF) NR NR).toArray _ kR kR C8 U (by rw [List.size_toArray,Ag hdl]; kernel_rfl) rfl)) (λw hw=>by simpa using St.pick (pre:=[(g0,79,(As R NR cR bm).toArray),(g1,23,(sd.map bv).toArray),(g2,31,(AM d0 (pA gF) NR NR).toArray),(gF,51,(Ar y1 NR)),(g3,31,(AM d0 (pA gF) NR NR).toArray)]) (M:=[(gF,51,Ar y1 NR)]) [3] dZ kR hw) ⟨gF,y1,by rw [hd0],rfl,by rw [← hd0]; exact QF hh1⟩
  ·have lb2:=dY hb2
   have hnk1:=hn64 k1 lb2
   have hat1:=hat k1 lb2
   obtain ⟨gk,ck2,sp,hkv,hkb,hk1s,hk2s,hk3s⟩:=(show (y1 k1).Is _ _ _ from hh1 k1).open (by rw [Di lb2]; omega)
   rw [Di lb2] at hkv hkb hk1s hk2s
   rw [SA] at hkb
   obtain ⟨fR,hfR⟩:∃ f:Nat→List Value,f=λj=>fws (rgF bm sd k1 j):=⟨_,rfl⟩
   rw [← hfR] at hkb
   have hf4:∀ j,(fR j).length=4:=λj=>by rw [hfR]; rfl
   refine Sy.permC (Sy.out1 y1 lb2 hkb)<|sT<|Sy.skip<|Sy.then_<|Sy.seq<|Sy.block<|sC<|sP (iZ k1)<|sS (.pointer (some ⟨gQ,oQ+k1*5,none⟩)) (Quiet.pure (AJ 26 _ _ _ S gQ oQ NR cS k1 5 .i64 (hQ om).1 U U U Pz kF om))<|sS (.agg (CA (((at_ k1):Nat):Int) (sx k1)).toArray) (Quiet.there gQ (oQ+k1*5) 5 44 (CA ((at_ k1:Nat):Int) (sx k1)) _ _ U kR (hQ om).2.1 ((hQ om).2.2 k1 om) S6 U kR U _ U)<|sM 44 (CA ((0:Nat):Int) 0).toArray (λg4=>?_)
   refine Sy.movT<|sP (iZ k1)<|sW 6 g4 44 (CA ((0:Nat):Int) 0).toArray (CA (((at_ k1):Nat):Int) (sx k1)).toArray (Writes.row 44 (CA (((at_ k1):Nat):Int) (sx k1)) 5 _ _ U kR kR kR U kR (λu hu=>by rcases List.mem_cons.1 hu with rfl | hu; exact rfl; exact C2 _ u hu))<|Sy.setT<|sH (λj=>false) ?_
   refine sD 0 U (BD R NR cR bm) (Quiet.load 0 g0 0 33 79 79 (As R NR cR bm).toArray _ _ U kR kR Ez U kR _ (BQ hbm) (Bx hbm))<|sZ 1 U (pT g3 0)<|sZ 2 U (.slice (pA g3) 32 32)<|sZ 3 U (pT g3 32)<|sD 4 U (.slice (pA gF) NR NR) (Quiet.cell 4 g3 32 31 29 (AM d0 (pA gF) NR NR).toArray _ _ U kR kR B4 U _ (Dd hdl))<|sZ 5 U (iZ k1)<|sD 6 U (.pointer (some ⟨gF,0+k1*1,none⟩)) (Quiet.pure (BT 29 _ _ _ gF 0 NR NR k1 1 .i64 U U U B4 kF om))<|sD 7 U (.slice (pA gk) (nk k1) ck2) (Quiet.cell 3 gF (0+k1*1) 51 51 (Ar y1 NR) _ _ U kR kR B3 U _ ((C4 om U).trans (congrArg some hkv)))<|sZ 8 U (iZ k1)<|sZ 9 U (pT g4 0)<|sD 10 U (iZ ((at_ k1))) (qC 6 g4 0 44 3 (CA (((at_ k1):Nat):Int) (sx k1)).toArray U uy3)<|Sy.callND 11 U kR kR 100 #[BD R NR cR bm,.slice (pA g3) 32 32,.slice (pA gk) (nk k1) ck2,iZ k1,.int .i64 0,iZ ((at_ k1))] kF (AlR (pA g3) 32 32 (at_ k1) (alX (rgF bm sd k1) bm k1 0 (X k1) (Y k1) (I k1) d0 (at_ k1))) (λw hw=>by have q:=Hp w R NR cR a nk ck X Y I hX hY hNR hnk (hlr0.below hw.below) (λi hi=>(hlk i hi).below hw.below) bm hbm (pA g3) d0 32 32 hdl dZ dZ dZ (Iv (hw.get (i:=4) rfl)) (pA gk) (nk k1) ck2 (rgF bm sd k1) (λ_=>Gp _ _ _ _) (by rw [← hfR]; exact Iy hf4 hw (List.mem_append.2 (.inl (List.mem_of_getElem? (i:=5) rfl)))) k1 0 (at_ k1) om om om om om (ht.below hw.below ht.lt); rw [Nat.zero_add] at q; exact q) (λvq Mq hR0=>?_)
   obtain ⟨xA,xk,hxv,hxl,hxk,hx33,hxs⟩:=AlR.tx (w0:=Base.of w) hR0 (λh=>GS h) [(g3,31,(AM d0 (pA gF) NR NR).toArray)] (λh=>by rw [h]; exact ⟨hdl,by decide,by decide,λv L hv hb=>Iv (hv.blk _ _ _ (hb _ (List.mem_singleton.2 U))).2⟩)
   obtain ⟨xn,hxn⟩:=xE ((if at_ k1=0 then 32 else 33))
   rw [← hxn] at hxl hxv
   subst hxv
   refine Sy.permD Sy.end_perm<|sZ 12 U (.slice xA xn xk)<|sE<|sB<|sS (BD R NR cR bm) (Quiet.load 0 g0 0 33 79 79 (As R NR cR bm).toArray _ _ U kR kR Ez U kR _ (BQ hbm) (Bx hbm))<|sP (.slice xA xn xk)<|sP (iZ k1)<|sP (pT g4 0)<|sS (iZ ((at_ k1))) (qC 6 g4 0 44 3 (CA (((at_ k1):Nat):Int) (sx k1)).toArray U uy3) ?_
   obtain ⟨ek,hek⟩:=xE (sgE bm sd X Y I at_ d0 k1)
   refine sS (fv ek) (Quiet.callS 102 #[BD R NR cR bm,.slice xA xn xk,iZ k1,iZ ((at_ k1))] kF (λw hw=>by rw [hek]; exact Eb w R NR cR bm hbm xA _ xn xk hxl om om om (hxs w _ hw (λb hb=>(List.mem_append.1 hb).elim (λh=>List.mem_append.2 (.inl (by rw [List.mem_singleton.1 h]; exact List.mem_of_getElem? (i:=4) rfl))) (λh=>List.mem_append.2 (.inr (List.mem_append.2 (.inr (List.mem_append.2 (.inr h)))))))) k1 (at_ k1) om om (ht.below hw.below ht.lt)))<|sM 42 (fcs 0) (λg5=>?_)
   refine Sy.movT<|sW 7 g5 42 (fcs 0) (fcs ek) (wS 0 42 (fcs ek) rfl)<|Sy.setT<|sG<|Sy.regionD (λj=>j == 17) kR<|sZ 0 U (pT g3 32)<|sD 1 U (.slice (pA gF) NR NR) (Quiet.cell 4 g3 32 31 29 (AM d0 (pA gF) NR NR).toArray _ _ U kR kR B4 U _ (Dd hdl))<|sZ 2 U (iZ k1)<|sD 3 U (.pointer (some ⟨gF,0+k1*1,none⟩)) (Quiet.pure (BT 29 _ _ _ gF 0 NR NR k1 1 .i64 U U U B4 kF om))<|sD 4 U (.slice (pA gk) (nk k1) ck2) (Quiet.cell 3 gF (0+k1*1) 51 51 (Ar y1 NR) _ _ U kR kR B3 U _ ((C4 om U).trans (congrArg some hkv)))<|sZ 5 U (pT g4 0)<|sD 6 U (iZ ((at_ k1))) (qC 6 g4 0 44 3 (CA (((at_ k1):Nat):Int) (sx k1)).toArray U uy3)<|sD 7 U (BD R NR cR bm) (Quiet.load 0 g0 0 33 79 79 (As R NR cR bm).toArray _ _ U kR kR Ez U kR _ (BQ hbm) (Bx hbm))<|sD 8 U (.agg (sd.map bv).toArray) (Quiet.load 1 g1 0 32 23 23 (sd.map bv).toArray _ _ U kR kR D6 U kR _ (CW sd hsd) (Ct sd hsd))<|sZ 9 U (iZ k1) ?_
   obtain ⟨kn,hkn⟩:=xE (rgN bm sd k1)
   refine sD 10 U (fv kn) (Quiet.callS 98 #[BD R NR cR bm,.agg (sd.map bv).toArray,iZ k1] kF (λw hw=>by rw [hkn]; exact Gz w R NR cR bm hbm sd hsd k1 om (ht.below hw.below ht.lt)))<|sD 11 U (fv ek) (qL 7 g5 0 4 42 42 (fcs ek) rfl Ak)<|sZ 12 U (pT g4 1)<|sD 13 U (fv (sx k1)) (qL 6 g4 1 4 44 42 (CA (((at_ k1):Nat):Int) (sx k1)).toArray U Ak) ?_
   obtain ⟨km,hkm⟩:=xE (Sc.mulP ek (sx k1))
   refine sD 14 U (fv km) (qF 104 #[fv ek,fv (sx k1)] (λw=>by rw [hkm]; exact Sc.mulF_any w _ _ (by rw [hek]; exact Ep _ _ _ _) (hsx _))) ?_
   obtain ⟨ks,hks⟩:=xE (Sc.subP kn km)
   refine sD 15 U (fv ks) (qF 103 #[fv kn,fv km] (λw=>by rw [hks]; exact Sc.subF_any w _ _ (by rw [hkn]; exact ON _ _ _) (by rw [hkm]; exact Sc.mod_lt _)))<|sD 16 U (.pointer (some ⟨gk,0+(at_ k1)*4,none⟩)) (Quiet.pure (BT 51 _ _ _ gk 0 (nk k1) ck2 (at_ k1) 4 .i64 U U U B3 kF om))<|sX 17 U 5 gk 42 (AO fR (nk k1)++sp).toArray (AO (λj=>if j=(at_ k1) then fws ks else fR j) (nk k1)++sp).toArray (Writes.store (0+(at_ k1)*4) 42 (fcs ks) _ _ U kR kR kR (IU (k:=(at_ k1)) hf4 om U) kR (Na (k:=(at_ k1)) (v:=fws ks) hf4 U om U))<|Sy.setTD<|sE<|Sy.in_<|Sy.then_<|Sy.region<|sS (iZ (k1+1)) (qad U U U)<|sP (iZ (k1+1))<|Sy.nil ?_
   exact Sy.againT (CO y1 k1 ⟨.slice (pA gk) (nk k1) ck2,[(gk,42,(AO (λj=>if j=(at_ k1) then fws ks else fR j) (nk k1)++sp).toArray)]⟩) om (hh1.upd (by rw [Di om, ← QE, ← hkn, ← hek, ← hkm, ← hks,hfR]; exact Slc.Is.close (λk=>by split <;> rfl) (λk=>by split <;> exact C2 _) hk1s hk2s hk3s) (λi hi=>R_ hi)) ac7 (λw hw=>by rw [K0 (by exact hkv.symm)]; exact St.back1 om (St.pick (pre:=[(g0,79,(As R NR cR bm).toArray),(g1,23,(sd.map bv).toArray),(g2,31,zS33.toArray),(gF,51,(Ar y1 NR)),(g3,31,(AM d0 (pA gF) NR NR).toArray),(gk,42,(AO (λj=>if j=(at_ k1) then fws ks else fR j) (nk k1)++sp).toArray),(g4,44,(CA (((at_ k1):Nat):Int) (sx k1)).toArray),(g5,42,(fcs ek))]) (M:=[(g0,79,(As R NR cR bm).toArray),(g1,23,(sd.map bv).toArray),(g2,31,zS33.toArray),(gF,51,(Ar y1 NR)),(g3,31,(AM d0 (pA gF) NR NR).toArray)]++[(gk,42,(AO (λj=>if j=(at_ k1) then fws ks else fR j) (nk k1)++sp).toArray)]) [0,1,2,3,4,5] dZ kR hw))
 ·have lb1:=dY hb1
  have hnk1:=hn64 k1 lb1
  have hat1:=hat k1 lb1
  obtain ⟨wA,wc,hwv,_,_,hwl⟩:=hr0.lst (Di lb1) lb1
  refine sT<|Sy.skip<|Sy.then_<|Sy.seq<|Sy.block<|sC<|sP (iZ k1)<|sS (.pointer (some ⟨gQ,oQ+k1*5,none⟩)) (Quiet.pure (AJ 26 _ _ _ S gQ oQ NR cS k1 5 .i64 (hQ om).1 U U U Pz kF om))<|sS (.agg (CA (((at_ k1):Nat):Int) (sx k1)).toArray) (Quiet.there gQ (oQ+k1*5) 5 44 (CA ((at_ k1:Nat):Int) (sx k1)) _ _ U kR (hQ om).2.1 ((hQ om).2.2 k1 om) S6 U kR U _ U)<|sM 44 (CA ((0:Nat):Int) 0).toArray (λg6=>?_)
  refine Sy.movT<|sP (iZ k1)<|sW 5 g6 44 (CA ((0:Nat):Int) 0).toArray (CA (((at_ k1):Nat):Int) (sx k1)).toArray (Writes.row 44 (CA (((at_ k1):Nat):Int) (sx k1)) 5 _ _ U kR kR kR U kR (λu hu=>by rcases List.mem_cons.1 hu with rfl | hu; exact rfl; exact C2 _ u hu))<|Sy.setT<|sA<|sS (BD R NR cR bm) (Quiet.load 0 g0 0 33 79 79 (As R NR cR bm).toArray _ _ U kR kR Ez U kR _ (BQ hbm) (Bx hbm))<|sS (.agg (sd.map bv).toArray) (Quiet.load 1 g1 0 32 23 23 (sd.map bv).toArray _ _ U kR kR D6 U kR _ (CW sd hsd) (Ct sd hsd))<|sP (iZ k1)<|sS (fv (rgN bm sd k1)) (Quiet.callS 98 #[BD R NR cR bm,.agg (sd.map bv).toArray,iZ k1] kF (λw hw=>Gz w R NR cR bm hbm sd hsd k1 om (ht.below hw.below ht.lt)))<|sS (pv gx.val gy.val false) (qF 99 #[] (Lq))<|sS (pv (pX (evP (rgN bm sd k1))) (pY (evP (rgN bm sd k1))) (pI (evP (rgN bm sd k1)))) (qF 97 #[fv (rgN bm sd k1),pv gx.val gy.val false] (λw=>MM (ON _ _ _) (lt4 _) (lt4 _) (show dec gx.val gy.val false=bP from EZ gx gy bP_on) rfl w))<|Sy.callN kR 94 #[pv (pX (evP (rgN bm sd k1))) (pY (evP (rgN bm sd k1))) (pI (evP (rgN bm sd k1)))] kF ((CT (evP (rgN bm sd k1)))) (λw hw=>by have q:=Hj w (pX (evP (rgN bm sd k1))) (pY (evP (rgN bm sd k1))) (pI (evP (rgN bm sd k1))) (Eh _) (Eg _); rwa [CE (Lf _)] at q) (λvq Mq hR0=>?_)
  obtain ⟨q7,rfl,rfl⟩:=hR0
  refine Sy.movT<|sP (.slice (pA q7) 33 33)<|sG<|Sy.regionD (λj=>j == 20) kR<|sZ 0 U (y1.1.v)<|Sy.stepDB 1 [18,19,20,21] rfl kR (λ_ _ _ _ h=>h) kR (BD R NR cR bm) (Quiet.load 0 g0 0 33 79 79 (As R NR cR bm).toArray _ _ U kR kR Ez U kR _ (BQ hbm) (Bx hbm))<|Sy.stepDB 2 [18,19,20,21] rfl kR (λ_ _ _ _ h=>h) kR (.slice (pA q7) 33 33) qP<|Sy.stepDB 3 [4,6,7,18,19,20,21] rfl kR (λ_ _ _ _ h=>h) kR (pT g3 32) qP<|Sy.stepDB 4 [6,7,18,19,20,21] rfl kR (λ_ _ _ _ h=>h) kR (.slice (pA gF) NR NR) (Quiet.cell 4 g3 32 31 29 (AM (List.replicate 32 (0:UInt8)) (pA gF) NR NR).toArray _ _ U kR kR B4 U _ (Dd List.length_replicate))<|Sy.stepDB 5 [6,7,18,19,20,21] rfl kR (λ_ _ _ _ h=>h) kR (iZ k1) qP<|Sy.stepDB 6 [7,18,19,20,21] rfl kR (λ_ _ _ _ h=>h) kR (.pointer (some ⟨gF,0+k1*1,none⟩)) (Quiet.pure (BT 29 _ _ _ gF 0 NR NR k1 1 .i64 U U U B4 kF om)) ?_
  refine Sy.stepDB 7 [18,19,20,21] rfl kR (λ_ _ _ _ h=>h) kR (.slice wA (nk k1) wc) (Quiet.cell 3 gF (0+k1*1) 51 51 (Ar r0 NR) _ _ U kR kR B3 U _ ((C4 om U).trans (congrArg some hwv)))<|Sy.stepDB 8 [18,19,20,21] rfl kR (λ_ _ _ _ h=>h) kR (iZ k1) qP<|Sy.stepDB 9 [10,11,18,19,20,21] rfl kR (λ_ _ _ _ h=>h) kR (pT g6 0) qP<|Sy.stepDB 10 [11,18,19,20,21] rfl kR (λ_ _ _ _ h=>h) kR (iZ ((at_ k1))) (qC 5 g6 0 44 3 (CA (((at_ k1):Nat):Int) (sx k1)).toArray U uy3)<|Sy.stepDB 11 [18,19,20,21] rfl kR (λ_ _ _ _ h=>h) kR (iZ ((at_ k1)+1)) (qad U U U)<|Sy.stepDB 12 [13,15,16,17,18,19,20,21] rfl kR (λ_ _ _ _ h=>h) kR (pT g3 32) qP<|Sy.stepDB 13 [15,16,17,18,19,20,21] rfl kR (λ_ _ _ _ h=>h) kR (.slice (pA gF) NR NR) (Quiet.cell 4 g3 32 31 29 (AM (List.replicate 32 (0:UInt8)) (pA gF) NR NR).toArray _ _ U kR kR B4 U _ (Dd List.length_replicate))<|Sy.stepDB 14 [15,16,17,18,19,20,21] rfl kR (λ_ _ _ _ h=>h) kR (iZ k1) qP<|Sy.stepDB 15 [16,17,18,19,20,21] rfl kR (λ_ _ _ _ h=>h) kR (.pointer (some ⟨gF,0+k1*1,none⟩)) (Quiet.pure (BT 29 _ _ _ gF 0 NR NR k1 1 .i64 U U U B4 kF om))<|Sy.stepDB 16 [17,18,19,20,21] rfl kR (λ_ _ _ _ h=>h) kR (.slice wA (nk k1) wc) (Quiet.cell 3 gF (0+k1*1) 51 51 (Ar r0 NR) _ _ U kR kR B3 U _ ((C4 om U).trans (congrArg some hwv)))<|Sy.stepDB 17 [18,19,20,21] rfl kR (λ_ _ _ _ h=>h) kR (iZ ((nk k1))) qP ?_
  refine Sy.callND 18 U kR kR 100 #[BD R NR cR bm,.slice (pA q7) 33 33,.slice wA (nk k1) wc,iZ k1,iZ ((at_ k1)+1),iZ ((nk k1))] kF (AlR (pA q7) 33 33 (nk k1 - (at_ k1+1)) (sgL bm sd X Y I at_ nk k1)) (λw hw=>by have q:=Hp w R NR cR a nk ck X Y I hX hY hNR hnk (hlr0.below hw.below) (λi hi=>(hlk i hi).below hw.below) bm hbm (pA q7) (sgX bm sd k1) 33 33 (Ix _) dZ dZ dZ (Sh.Src.of_blk (hw.get (i:=6) rfl)) wA (nk k1) wc (rgF bm sd k1) (λ_=>Gp _ _ _ _) (hwl hw (λb hb=>List.mem_append.2 (.inr (List.mem_append.2 (.inl hb))))) k1 (at_ k1+1) (nk k1 - (at_ k1+1)) om om om om om (ht.below hw.below ht.lt); rwa [show at_ k1+1+(nk k1 - (at_ k1+1))=nk k1 by omega] at q) (λvq Mq hR0=>?_)
  obtain ⟨xA,xk,rfl,hxl,hxk,hx33,hxs⟩:=R9 (w0:=Base.of w) hR0
  refine Sy.permD Sy.end_perm3<|Sy.makeD 19 U kR kR 24 #[.slice xA 33 xk] (λg=>.slice (pA g) 1 1) kF (λg7=>?_)
  refine Sy.movTD<|Sy.soleD 20 U (λQ1 hq1=>?_)
  refine Sy.permS Sy.rot_perm<|Sy.appendR kR 88 24 _ _ 1 24 Fd Dt U U U U dZ _ _ U hh1.1.row kR [.slice xA 33 xk] rfl (Er _ _ _) 7 g7 24 kR kR (by rw [List.length_map,hh1.2.2]; omega) (by rw [List.length_map,hh1.2.2]; simp only [maxLen]; omega) (λr1 hr1=>?_)
  refine Sy.permS Sy.tor_perm<|hq1 _ _<|Sy.anyOf [21] kR dZ (Sy.each1 ?_)
  refine Sy.oneQuiet U kR (r1.v) qP<|sE<|Sy.in_<|Sy.then_<|Sy.region<|sS (iZ (k1+1)) (qad U U U)<|sP (iZ (k1+1))<|Sy.nil ?_
  exact Sy.againT ((r1,y1.2.1++(Mq++[(q7,174,((sgX bm sd k1).map bv).toArray)]),y1.2.2++[(⟨xA,sgL bm sd X Y I at_ nk k1,xk⟩:Sh.Tx)])) om (⟨hh1.1.add (⟨xA,sgL bm sd X Y I at_ nk k1,xk⟩:Sh.Tx) (Mq++[(q7,174,((sgX bm sd k1).map bv).toArray)]) hr1 (by unfold Sh.Tx.val; rw [show (sgL bm sd X Y I at_ nk k1).length=33 from hxl]) (λv L hv hb=>⟨hxs v L hv (λb h=>hb b ((List.mem_append.1 h).elim (λh=>List.mem_append.2 (.inr h)) (λh=>List.mem_append.2 (.inl h)))),hxk,by show xk≤9223372036854775807; omega⟩),by rw [FK,hh1.2.1]; rfl,by rw [List.length_append,hh1.2.2]; rfl⟩) ac9 (λw hw=>St.pick4 (pre:=[(g0,79,(As R NR cR bm).toArray),(g1,23,(sd.map bv).toArray),(g2,31,zS33.toArray),(gF,51,(Ar r0 NR)),(g3,31,(AM (List.replicate 32 (0:UInt8)) (pA gF) NR NR).toArray),(g6,44,(CA (((at_ k1):Nat):Int) (sx k1)).toArray),(q7,174,((sgX bm sd k1).map bv).toArray),(g7,24,#[.slice xA 33 xk])]) (M:=[(g0,79,(As R NR cR bm).toArray),(g1,23,(sd.map bv).toArray),(g2,31,zS33.toArray),(gF,51,(Ar r0 NR)),(g3,31,(AM (List.replicate 32 (0:UInt8)) (pA gF) NR NR).toArray)]) (N:=[(q7,174,((sgX bm sd k1).map bv).toArray)]) [0,1,2,3,4,6] dZ kR hw)
end Cu
end
section
namespace Sy
open Go.RowKit Go.ChangeShapes Go.WideShapes Go.MapKept Go.ChangeMaps Go.WideElems
open Go.WideMaps (KeyLaw ArrKey)
section
variable {P:Program} {w0:Base} {n:Nat} {Q:Exit→Act→World→Prop} {F:AK} {L:AC} {ops:Array Oper} {o:Oper} {l:List Oper} {ex:Nat→Bool} {fuel:Nat} {listed:Array Bool}
end
section
variable {P:Program} {t k e:TypeId} {es:Array MapEntry} {clock:Nat} {ks:List Value}
open Classical in
end
end Sy
end
section
namespace Cu
open Go.RowKit Sy Go.ChangeShapes Go.WideShapes Go.MapKept Go.ChangeMaps Go.WideElems
open Go.WideMaps (KeyLaw ArrKey)
section
variable {m:List UInt8} {T:Int} {N M:Nat} {K:Nat→List UInt8} {Z:Nat→Int} {S:Nat→List UInt8}
end
end Cu
end
section
namespace Cu
open Go.RowKit Sy
end Cu
end
section
namespace Cu
open Go.RowKit Sy
end Cu
end
section
namespace Cu
open Go.RowKit Sy
section
variable {x:Nat→Nat} {m:List UInt8}
end
section
variable {l:List (List UInt8×List UInt8)} {m:List UInt8}
theorem GT {w:World} {s n:Nat} {A:Option Addr} {e e':Nat→List Value} (h:Lst w s A n e) (he:∀ i,i<n→e i=e' i):Lst w s A n e':=by
 obtain ⟨g,o,h⟩:=h
 refine ⟨g,o,λhn=>?_⟩
 obtain ⟨h1,h2,h3⟩:=h hn
 exact ⟨h1,h2,λj hj=>by rw [← he j hj]; exact h3 j hj⟩
end
end Cu
end
section
namespace Cu
open Go.RowKit Sy
noncomputable def Sg:TypeInfo:=(Tryz.prog.info? 3).getD default
theorem O7:Tryz.prog.info? 3=some Sg:=kZ
theorem Oj (z:Int):∀ u∈[Value.int .i64 z],u.oneCell'=true:=λu hu=>by rw [List.mem_singleton.1 hu]; rfl
def szR (n:Nat→Nat) (k:Nat):List (List Value):=(List.range k).map λi=>[iZ (n i)]
theorem Ip (n:Nat→Nat) (k:Nat):(szR n k).length=k:=by simp [szR]
theorem N4 (n:Nat→Nat) (k:Nat):szR n (k+1)=szR n k++[[iZ (n k)]]:=by
 unfold szR
 rw [List.range_succ,List.map_append]
 rfl
theorem P7 {n:Nat→Nat} {k i:Nat} (hi:i<k):(szR n k).getD i []=[iZ (n i)]:=by
 unfold szR
 rw [List.getD_eq_getElem?_getD,List.getElem?_map,List.getElem?_range hi]
 rfl
def CJ (NR:Nat) (n:Nat→Nat) (X Y:Nat→Nat→Nat) (I:Nat→Nat→Bool):Bool:=szB NR n && !(List.range NR).any (FW n X Y I)
theorem Gm (w:World) (R:Option Addr) (NR cR:Nat) (a:Nat→Option Addr) (n c:Nat→Nat) (X Y:Nat→Nat→Nat) (I:Nat→Nat→Bool) (hX:∀ i k,X i k<K4) (hY:∀ i k,Y i k<K4) (hNR:NR≤4611686018427387904) (hn:∀ i,n i≤4611686018427387904) (hlr:Lst w 1 R NR (λi=>[.slice (a i) (n i) (c i)])) (hlk:∀ i,i<NR→Lst w 9 (a i) (n i) (λk=>pml (X i k) (Y i k) (I i k))) (hN9:NR≤17592186044416):Calls Tryz.prog 36 #[.slice R NR cR] w (Gets w (.bool (CJ NR n X Y I))):=by
 have hlr0:=hlr
 obtain ⟨gR,oR,hR⟩:=hlr
 refine Sy.enter (args:=[.slice R NR cR]) Tryz.func36 U kL<|sC<|sP (.bool false)<|sA<|sP (.slice none 0 0)<|sG<|Sy.seq<|sC<|sP (.slice R NR cR)<|sP (iZ NR)<|sP (.int .i64 0)<|sG<|Sy.block<|Sy.loopT (Y:=Slc) NR (λk1 y1=>[(0,.slice R NR cR),(3,y1.v),(6,.slice R NR cR),(7,iZ NR),(8,iZ k1)]) (λk1 y1=>[]++(y1.bl++[])) (λk1 y1=>y1.Is 3 1 (szR n k1)) ⟨.slice none 0 0,[]⟩ (Slc.Is.nil _ _) ac5 (λw hw=>hw) (λk1 y1 hk1 hh1=>?_)
 refine sC ?_
 obtain ⟨b1,hb1⟩:=xE (decide (k1<NR))
 refine sS (.bool b1) (qls U U U hb1)<|sG<|Sy.seq ?_
 cases b1
 ·have lb1:=dN hb1
  refine sU<|Sy.exit<|Sy.then_exit<|Sy.then_exit ?_
  obtain rfl:NR=k1:=om
  refine Sy.in_exit<|sB<|sP (y1.v) ?_
  obtain ⟨b2,hb2⟩:=xE (szB NR n)
  refine sS (.bool b2) (qG 90 #[y1.v] (λw hw=>by obtain ⟨A,c2,hv,_,_,hl⟩:=hh1.out; rw [Ip] at hv hl; rw [hv,hb2]; exact Ko w A NR c2 n hNR (GT (hl hw (λb hb=>List.mem_append.2 (.inr (List.mem_append.2 (.inl hb))))) (λi hi=>P7 hi))))<|sP (.bool b2) ?_
  cases b2
  ·refine sN<|sN<|sN ?_
   refine sP (.bool false)<|sP (.bool false)<|sG<|Sy.ret ?_
   rw [show (.bool (CJ NR n X Y I):Value)=.bool false from by unfold CJ; rw [← hb2]; rfl]
   exact rV (.bool false) rfl
  ·refine sP (.slice R NR cR) ?_
   obtain ⟨b3,hb3⟩:=xE ((List.range NR).any (FW n X Y I))
   refine sS (.bool b3) (Quiet.callS 91 #[.slice R NR cR,.func (.func 92) #[] #[]] kF (λw hw=>by rw [hb3]; exact RM w R NR cR a n c X Y I hX hY hNR hn (hlr0.below hw.below) (λi hi=>(hlk i hi).below hw.below))) ?_
   cases b3
   ·refine sP (.bool true)<|sP (.bool true)<|sP (.bool true) ?_
    refine sG<|Sy.ret ?_
    rw [show (.bool (CJ NR n X Y I):Value)=.bool true from by unfold CJ; rw [← hb2, ← hb3]; rfl]
    exact rV (.bool true) rfl
   ·refine sP (.bool false)<|sP (.bool false)<|sP (.bool false) ?_
    refine sG<|Sy.ret ?_
    rw [show (.bool (CJ NR n X Y I):Value)=.bool false from by unfold CJ; rw [← hb2, ← hb3]; rfl]
    exact rV (.bool false) rfl
 ·have lb1:=dY hb1
  refine sT<|Sy.skip<|Sy.then_<|Sy.seq<|Sy.block<|sC<|sS (.pointer (some ⟨gR,oR+k1*1,none⟩)) (Quiet.pure (AJ 25 _ _ _ R gR oR NR cR k1 1 .i64 (hR om).1 U U U CY kF om))<|sS (.slice (a k1) (n k1) (c k1)) (Quiet.thereOne gR (oR+k1*1) 45 _ _ U kR (hR om).2.1 _ (AR ((hR om).2.2 k1 om) 0 U) CH U)<|sP (.slice (a k1) (n k1) (c k1))<|sG<|Sy.region<|sP (y1.v)<|sP (.slice (a k1) (n k1) (c k1))<|sP (iZ ((n k1)))<|Sy.make kR 3 #[iZ ((n k1))] (λg=>.slice (pA g) 1 1) kF (λg0=>?_)
  refine Sy.movT<|Sy.appendR kR 131 3 _ _ 1 8 C9 O7 U U U U dZ _ _ U hh1 kR [iZ ((n k1))] rfl (Oj _) 0 g0 3 kR kR (by rw [Ip]; omega) (by rw [Ip]; simp only [maxLen]; omega) (λr1 hr1=>?_)
  refine sP (r1.v)<|Sy.nil<|Sy.in_<|Sy.then_<|Sy.region<|sS (iZ (k1+1)) (qad U U U)<|sP (iZ (k1+1))<|Sy.nil ?_
  exact Sy.againT r1 om (by rw [N4]; exact hr1) ac5 (λw hw=>hw.pick [] dZ kR)
end Cu
end
section
namespace Cu
open Go.RowKit Sy
theorem Fl {NR:Nat} {nk:Nat→Nat} {X Y:Nat→Nat→Nat} {I:Nat→Nat→Bool} (h:true=CJ NR nk X Y I):NR≤32∧(∀ i,i<NR→nk i≤64)∧(∀ i,i<NR→1≤nk i)∧1≤NR:=by
 unfold CJ at h
 have q:=(Iq NR nk).1 (Bool.and_eq_true_iff.1 h.symm).1
 exact ⟨q.2.1,λi hi=>(q.2.2 i hi).2,λi hi=>(q.2.2 i hi).1,q.1⟩
theorem IV {At:Nat→Int} {sx:Nat→Nat} {nk:Nat→Nat} {X Y:Nat→Nat→Nat} {I:Nat→Nat→Bool} {NS NR:Nat} (h:true=D2 At sx nk X Y I NS NR):NS=NR∧∀ i,i<NR→At i=(((At i).toNat:Nat):Int)∧(At i).toNat<nk i∧DD (sx i) (X i (At i).toNat) (Y i (At i).toNat) (I i (At i).toNat)=true:=by
 unfold D2 at h
 obtain ⟨h1,h2⟩:=Bool.and_eq_true_iff.1 h.symm
 refine ⟨of_decide_eq_true h1,λi hi=>?_⟩
 have q:=List.all_eq_true.1 h2 i (List.mem_range.2 hi)
 unfold GB at q
 rw [Bool.and_eq_true,Bool.and_eq_true,decide_eq_true_iff,decide_eq_true_iff] at q
 exact ⟨by omega,by omega,q.2.2⟩
def vfB (m:List UInt8) (NR:Nat) (nk:Nat→Nat) (X Y:Nat→Nat→Nat) (I:Nat→Nat→Bool) (s:Nat→Nat→Nat) (d:List UInt8) (NW:Nat) (sn:Nat→Nat):Bool:=CJ NR nk X Y I && chB s (rgM m NR nk X Y I) X Y I d NW NR sn nk
theorem ChR.tup {b:Bool} {f:Nat→Nat→List Value} {nk:Nat→Nat} {NR:Nat} {v:Value} {M:AC} (h:ChR b f nk NR v M):∃ u,v=.tuple #[u,.bool b]:=by
 rcases h with ⟨rfl,rfl,_⟩ | ⟨rfl,u,rfl,_⟩ <;> exact ⟨_,rfl⟩
def SgnR (br bf:Bool) (d:List UInt8) (f:Nat→Nat→List Value) (nk:Nat→Nat) (NR:Nat) (v:Value) (M:AC):Prop :=
 (br=false∧v=.tuple #[AX (List.replicate 32 0) none 0 0,.int .i64 80]∧M=[])∨(br=true∧bf=false∧v=.tuple #[AX (List.replicate 32 0) none 0 0,.int .i64 81]∧M=[])∨(br=true∧bf=true∧∃ u,v=.tuple #[u,.int .i64 0]∧JV d f nk NR u M)
theorem Ks (w:World) (A:Option Addr) (m:List UInt8) (n c:Nat) (hm:m.length=n) (hm9:n≤999000000) (hc:n≤c) (hc2:c≤9223372036854775807) (hs0:Sh.Src w A m) (R:Option Addr) (NR cR:Nat) (a:Nat→Option Addr) (nk ck:Nat→Nat) (X Y:Nat→Nat→Nat) (I:Nat→Nat→Bool) (hX:∀ i k,X i k<K4) (hY:∀ i k,Y i k<K4) (hNR:NR≤4611686018427387904) (hnk:∀ i,nk i≤4611686018427387904) (hlr:Lst w 1 R NR (λi=>[.slice (a i) (nk i) (ck i)])) (hlk:∀ i,i<NR→Lst w 9 (a i) (nk i) (λk=>pml (X i k) (Y i k) (I i k))) (hN9:NR≤17592186044416) (d:List UInt8) (hd:d.length=32) (W:Option Addr) (NW cW:Nat) (sa:Nat→Option Addr) (sn sc:Nat→Nat) (s:Nat→Nat→Nat) (hsc:∀ i k,s i k<K4) (hNW:NW≤4611686018427387904) (hsn9:∀ i,i<NW→sn i≤4611686018427387904) (hlw:Lst w 1 W NW (λi=>[.slice (sa i) (sn i) (sc i)])) (hls:∀ i,i<NW→Lst w 4 (sa i) (sn i) (λk=>fws (s i k))) (ht:Sh.TabAt w 1):Calls Tryz.prog 12 #[.slice A n c,.slice R NR cR,AX d W NW cW] w (Gets w (.bool (vfB m NR nk X Y I s d NW sn))):=by
 have hlr0:=hlr
 obtain ⟨gR,oR,hR⟩:=hlr
 refine Sy.enter (args:=[.slice A n c,.slice R NR cR,AX d W NW cW]) Tryz.func12 U kL<|sC<|sM 31 (AM d W NW cW).toArray (λg0=>?_)
 refine sP (.bool false)<|sG<|Sy.seq<|sC<|sP (.slice R NR cR) ?_
 obtain ⟨b1,hb1⟩:=xE (CJ NR nk X Y I)
 refine sS (.bool b1) (qG 36 #[.slice R NR cR] (λw hw=>by rw [hb1]; exact Gm w R NR cR a nk ck X Y I hX hY hNR hnk (hlr0.below hw.below) (λi hi=>(hlk i hi).below hw.below) hN9)) ?_
 cases b1
 ·refine sP (.bool true) ?_
  refine sG<|sT<|sC<|sP (.bool false)<|sG<|Sy.ret<|Sy.then_ret ?_
  rw [show (.bool (vfB m NR nk X Y I s d NW sn):Value)=.bool false from by unfold vfB; rw [← hb1]; rfl]
  exact rV (.bool false) rfl
 ·obtain ⟨hN32,hn64,hn1,hN1⟩:=Fl hb1
  refine sP (.bool false)<|sG<|sU<|Sy.skip<|sR (λj=>false) ?_
  refine sZ 0 U (.slice A n c)<|sZ 1 U (.slice R NR cR) ?_
  obtain ⟨bM,hbM⟩:=xE (rgM m NR nk X Y I)
  have hbl:bM.length=32:=by rw [hbM]; exact E4 _ _ _ _ _ _
  refine sD 2 U (BD R NR cR bM) (qG 38 #[.slice A n c,.slice R NR cR] (λw hw=>by rw [hbM]; exact Kk w R NR cR a nk ck X Y I hX hY hNR hnk (hlr0.below hw.below) (λi hi=>(hlk i hi).below hw.below) hN32 hn64 A m n c hm hm9 hc hc2 (hs0.below hw.below) (ht.below hw.below ht.lt)))<|sD 3 U (AX d W NW cW) (Quiet.load 0 g0 0 33 31 31 (AM d W NW cW).toArray _ _ U kR kR C8 U kR _ (C_ hd) (Ek hd)) ?_
  obtain ⟨b2,hb2⟩:=xE (chB s bM X Y I d NW NR sn nk)
  refine Sy.callND 4 U kR kR 40 #[BD R NR cR bM,AX d W NW cW] kF (ChR b2 (eF s bM X Y I d) nk NR) (λw hw=>by rw [hb2]; exact GC w R NR cR a nk ck X Y I hX hY hNR hnk (hlr0.below hw.below) (λi hi=>(hlk i hi).below hw.below) hN32 hn64 hn1 bM hbl d hd W NW cW sa sn sc s hsc hNW hsn9 (hlw.below hw.below) (λi hi=>(hls i hi).below hw.below) (ht.below hw.below ht.lt)) (λvq Mq hR0=>?_)
  obtain ⟨u,rfl⟩:=hR0.tup
  refine sZ 5 U (.tuple #[u,.bool b2])<|sZ 6 U (u)<|sZ 7 U (.bool b2)<|sZ 8 U (u)<|sZ 9 U (.bool b2)<|sE<|sB<|sP (.bool b2)<|sP (.bool b2)<|sG<|Sy.ret ?_
  rw [show (.bool (vfB m NR nk X Y I s d NW sn):Value)=.bool b2 from by unfold vfB; rw [← hb1, ← hbM, ← hb2]; rfl]
  exact rV (.bool b2) rfl
theorem Nw (w:World) (sd:List UInt8) (hsd:sd.length=32) (A:Option Addr) (m:List UInt8) (n c:Nat) (hm:m.length=n) (hm9:n≤999000000) (hc:n≤c) (hc2:c≤9223372036854775807) (hs0:Sh.Src w A m) (R:Option Addr) (NR cR:Nat) (a:Nat→Option Addr) (nk ck:Nat→Nat) (X Y:Nat→Nat→Nat) (I:Nat→Nat→Bool) (hX:∀ i k,X i k<K4) (hY:∀ i k,Y i k<K4) (hNR:NR≤4611686018427387904) (hnk:∀ i,nk i≤4611686018427387904) (hlr:Lst w 1 R NR (λi=>[.slice (a i) (nk i) (ck i)])) (hlk:∀ i,i<NR→Lst w 9 (a i) (nk i) (λk=>pml (X i k) (Y i k) (I i k))) (hN9:NR≤17592186044416) (S:Option Addr) (NS cS:Nat) (At:Nat→Int) (sx:Nat→Nat) (hsx:∀ i,sx i<K4) (hNS:NS≤4611686018427387904) (hls:Lst w 5 S NS (λi=>CA (At i) (sx i))) (ht:Sh.TabAt w 1):Calls Tryz.prog 10 #[.agg (sd.map bv).toArray,.slice A n c,.slice R NR cR,.slice S NS cS] w (GetsN w (SgnR (CJ NR nk X Y I) (D2 At sx nk X Y I NS NR) (sgD (rgM m NR nk X Y I) sd X Y I (λi=>(At i).toNat) nk NR) (sgF (rgM m NR nk X Y I) sd X Y I (λi=>(At i).toNat) sx (sgD (rgM m NR nk X Y I) sd X Y I (λi=>(At i).toNat) nk NR)) nk NR)):=by
 have hls0:=hls
 obtain ⟨gS,oS,hS⟩:=hls
 have hlr0:=hlr
 obtain ⟨gR,oR,hR⟩:=hlr
 refine Sy.enter (args:=[.agg (sd.map bv).toArray,.slice A n c,.slice R NR cR,.slice S NS cS]) Tryz.func10 U kL<|sC<|sM 23 (sd.map bv).toArray (λg0=>?_)
 refine sM 31 zS33.toArray (λg1=>?_)
 refine sP (.int .i64 0)<|sG<|Sy.seq<|sC<|sP (.slice R NR cR) ?_
 obtain ⟨b1,hb1⟩:=xE (CJ NR nk X Y I)
 refine sS (.bool b1) (qG 36 #[.slice R NR cR] (λw hw=>by rw [hb1]; exact Gm w R NR cR a nk ck X Y I hX hY hNR hnk (hlr0.below hw.below) (λi hi=>(hlk i hi).below hw.below) hN9)) ?_
 cases b1
 ·refine sP (.bool true) ?_
  refine sG<|sT<|sC<|sP (AX (List.replicate 32 (0:UInt8)) none 0 0)<|sW 1 g1 31 zS33.toArray zS33.toArray (Writes.row 31 zS33 33 _ _ U kR kR kR (Ag List.length_replicate) (by rw [List.size_toArray,Ag List.length_replicate]) BV)<|sP (.int .i64 80)<|sG<|Sy.ret<|Sy.then_ret ?_
  exact BJ [] rfl (v:=AX (List.replicate 32 (0:UInt8)) none 0 0) (u:=.int .i64 80) (.inl (Res.cell (ty':=31) g1 1 zS33.toArray _ kR kR C8 U (by rw [List.size_toArray,Ag List.length_replicate]; kernel_rfl) rfl)) (.inl (show _=_ by kernel_rfl)) (λ_ hw=>hw.none) (.inl ⟨hb1.symm,rfl,rfl⟩)
 ·obtain ⟨hN32,hn64,hn1,hN1⟩:=Fl hb1
  refine sP (.bool false)<|sG<|sU<|Sy.skip<|Sy.then_<|Sy.seq<|sC<|sP (.slice S NS cS)<|sP (.slice R NR cR) ?_
  obtain ⟨b2,hb2⟩:=xE (D2 At sx nk X Y I NS NR)
  refine sS (.bool b2) (qG 37 #[.slice S NS cS,.slice R NR cR] (λw hw=>by rw [hb2]; exact Q9 w S NS cS At sx hsx hNS (hls0.below hw.below) R NR cR a nk ck X Y I hX hY hNR hnk (hlr0.below hw.below) (λi hi=>(hlk i hi).below hw.below))) ?_
  cases b2
  ·refine sP (.bool true) ?_
   refine sG<|sT<|sC<|sP (AX (List.replicate 32 (0:UInt8)) none 0 0)<|sW 1 g1 31 zS33.toArray zS33.toArray (Writes.row 31 zS33 33 _ _ U kR kR kR (Ag List.length_replicate) (by rw [List.size_toArray,Ag List.length_replicate]) BV)<|sP (.int .i64 81)<|sG<|Sy.ret<|Sy.then_ret ?_
   exact BJ [] rfl (v:=AX (List.replicate 32 (0:UInt8)) none 0 0) (u:=.int .i64 81) (.inl (Res.cell (ty':=31) g1 1 zS33.toArray _ kR kR C8 U (by rw [List.size_toArray,Ag List.length_replicate]; kernel_rfl) rfl)) (.inl (show _=_ by kernel_rfl)) (λ_ hw=>hw.none) (.inr (.inl ⟨hb1.symm,hb2.symm,rfl,rfl⟩))
  ·obtain ⟨hNE,hfp⟩:=IV hb2
   obtain rfl:NR=NS:=hNE.symm
   refine sP (.bool false)<|sG<|sU<|Sy.skip<|sR (λj=>j == 6) ?_
   refine sZ 0 U (.slice A n c)<|sZ 1 U (.slice R NR cR) ?_
   obtain ⟨bM,hbM⟩:=xE (rgM m NR nk X Y I)
   have hbl:bM.length=32:=by rw [hbM]; exact E4 _ _ _ _ _ _
   refine sD 2 U (BD R NR cR bM) (qG 38 #[.slice A n c,.slice R NR cR] (λw hw=>by rw [hbM]; exact Kk w R NR cR a nk ck X Y I hX hY hNR hnk (hlr0.below hw.below) (λi hi=>(hlk i hi).below hw.below) hN32 hn64 A m n c hm hm9 hc hc2 (hs0.below hw.below) (ht.below hw.below ht.lt)))<|sD 3 U (.agg (sd.map bv).toArray) (Quiet.load 0 g0 0 32 23 23 (sd.map bv).toArray _ _ U kR kR D6 U kR _ (CW sd hsd) (Ct sd hsd))<|sZ 4 U (.slice S NR cS) ?_
   obtain ⟨d0,hd0⟩:=xE ((sgD bM sd X Y I (λi=>(At i).toNat) nk NR))
   have hdl:d0.length=32:=by rw [hd0]; exact E2 _
   refine Sy.callND 5 U kR kR 39 #[BD R NR cR bM,.agg (sd.map bv).toArray,.slice S NR cS] kF (JV d0 (sgF bM sd X Y I (λi=>(At i).toNat) sx d0) nk NR) (λw hw=>by rw [hd0]; exact Mw w R NR cR a nk ck X Y I hX hY hNR hnk (hlr0.below hw.below) (λi hi=>(hlk i hi).below hw.below) hN32 hn64 hn1 bM hbl sd hsd S cS (λi=>(At i).toNat) sx hsx (GT (hls0.below hw.below) (λi hi=>by rw [← (hfp i hi).1])) (λi hi=>(hfp i hi).2.1) (ht.below hw.below ht.lt)) (λvq Mq hR0=>?_)
   obtain ⟨gF,r0,rfl,rfl,hr0⟩:=hR0
   refine Sy.permD (M:=[(g0,23,(sd.map bv).toArray),(g1,31,zS33.toArray),(gF,51,(Ar r0 NR))]++(Av r0 NR++[])) (by rw [List.append_nil]; exact List.Perm.refl _)<|sX 6 U 1 g1 31 zS33.toArray (AM d0 (pA gF) NR NR).toArray (Writes.row 31 (AM d0 (pA gF) NR NR) 33 _ _ U kR kR kR (Ag hdl) (by rw [List.size_toArray,Ag List.length_replicate]) BV)<|Sy.setTD<|Sy.anyOf [7] kR dZ (Sy.each1 ?_)
   refine Sy.oneQuiet U kR (.int .i64 0) qP<|sI<|Sy.ret ?_
   exact BJ ((gF,51,Ar r0 NR)::Av r0 NR) rfl (v:=AX d0 (pA gF) NR NR) (u:=.int .i64 0) (.inl (Res.cell (ty':=31) g1 1 (AM d0 (pA gF) NR NR).toArray _ kR kR C8 U (by rw [List.size_toArray,Ag hdl]; kernel_rfl) rfl)) (.inl (show _=_ by kernel_rfl)) (λw hw=>by simpa using St.pick (pre:=[(g0,23,(sd.map bv).toArray),(g1,31,(AM d0 (pA gF) NR NR).toArray),(gF,51,(Ar r0 NR))]) (M:=[(gF,51,Ar r0 NR)]) [2] dZ kR hw) (.inr (.inr ⟨hb1.symm,hb2.symm,_,rfl,gF,r0,by rw [hd0,hbM],rfl,by rw [hd0,hbM] at hr0; exact hr0⟩))
end Cu
end
section
namespace Cu
open Go.RowKit Sy
theorem Jq (w:World) (nm:ByteArray) (hnm:nm.size≤1000000000) (T:Option Addr) (ts:List Sh.Tx) (n ct:Nat) (hn:ts.length=n) (hn2:n≤1000000000) (hT:Sh.Texts w T ts) (htr:Sh.TabAt w 0) (hm:(Sh.cat ts).length≤1000000000):Calls Tryz.prog 59 #[.string nm,.slice T n ct] w (Gets w (fv (Ai (Sh.taggedS nm.data.toList (Sh.cat ts))%Sc.pM))):=by
 refine Sy.enter (args:=[.string nm,.slice T n ct]) Tryz.func59 U kL<|sC<|sM 42 (fcs 0) (λg0=>?_)
 refine sA<|sP (.string nm)<|sP (.slice T n ct) ?_
 obtain ⟨dT,hdT⟩:=xE (Sh.taggedS nm.data.toList (Sh.cat ts))
 have hdl:dT.length=32:=by rw [hdT]; exact CU _ _
 refine sS (.agg (dT.map bv).toArray) (qG 44 #[.string nm,.slice T n ct] (λw hw=>by rw [hdT]; subst hn; exact Sh.taggedR_any w nm T ts ct (hT.below hw.below) (htr.below hw.below htr.lt) hnm hm hn2))<|sS (fv (Ai dT%Sc.pM)) (qF 66 #[.agg (dT.map bv).toArray] (λw=>QG w dT hdl))<|sW 0 g0 42 (fcs 0) (fcs (Ai dT%Sc.pM)) (wS 0 42 (fcs (Ai dT%Sc.pM)) U)<|sG<|Sy.ret ?_
 rw [show (fv (Ai (Sh.taggedS nm.data.toList (Sh.cat ts))%Sc.pM):Value)=fv (Ai dT%Sc.pM) from by rw [hdT]]
 exact rC (v:=fv (Ai dT%Sc.pM)) 42 g0 0 (fcs (Ai dT%Sc.pM)) U Ak
theorem SF {w:World} {nm:ByteArray} (hnm:nm.size≤1000000000) {g g3:Nat} {t t3:TypeId} {a b:Sh.Tx} {av bv':Value} (ha:a.val=av) (hb:b.val=bv') (hao:a.ok w) (hbo:b.ok w) {l:List UInt8} {k:Nat} (hk:l.length=k) (hk2:k≤60) (h3:Blk w g3 t3 (l.map bv).toArray) (h:Blk w g t #[av,bv',.slice (pA g3) k k]) (hl:a.l.length+b.l.length≤999999900) (ht:Sh.TabAt w 0) :
  Calls Tryz.prog 59 #[.string nm,.slice (pA g) 3 3] w (Gets w (fv (Ai (Sh.taggedS nm.data.toList (a.l++b.l++l))%Sc.pM))):=by
 subst ha hb hk
 have e:Sh.cat [a,b,⟨some ⟨g3,0,none⟩,l,l.length⟩]=a.l++b.l++l:=by simp [Sh.cat]
 have q:=Jq w nm hnm (pA g) [a,b,⟨some ⟨g3,0,none⟩,l,l.length⟩] 3 3 U dZ (Fg (by
  rw [List.map_cons,List.map_cons,List.map_cons,List.map_nil]
  exact h) (ok3 hao hbo ⟨Sh.Src.of_blk h3,Nat.le_refl _,by show l.length≤_; omega⟩)) ht (by rw [e,List.length_append,List.length_append]; omega)
 rw [e] at q
 exact q
def JX (P:Pt) (v:Value) (M:AC):Prop:=∃ (g:Nat) (sp:List Value) (cap:Nat),v=.slice (pA g) 33 cap∧(33≤cap∧cap≤9223372036854775807)∧M=[(g,5,((Aw P).map bv++sp).toArray)]
theorem Qd {w:World} {g:Nat} {t:TypeId} {l:List UInt8} {sp:List Value} {c n:Nat} (hb:Blk w g t (l.map bv++sp).toArray) (hl:l.length=n) (hc:n≤c∧c≤9223372036854775807):(Sh.Tx.mk (pA g) l c).ok w:=⟨EK hb,by show l.length≤c; omega,hc.2⟩
theorem Mv (w:World) (MA:Option Addr) (bm:List UInt8) (mc:Nat) (hbm:bm.length=32) (hmc:32≤mc) (hmc2:mc≤9223372036854775807) (hms:Sh.Src w MA bm) (A:Option Addr) (x:List UInt8) (n c:Nat) (hx:x.length=n) (hm:n≤999000000) (hc:n≤c) (hc2:c≤9223372036854775807) (hs0:Sh.Src w A x) (i j:Nat) (hi:i<256) (hj:j<256) (htr:Sh.TabAt w 0):Calls Tryz.prog 57 #[.slice MA 32 mc,.slice A n c,iZ i,iZ j] w (Gets w (fv (rgC bm x i j))):=by
 refine Sy.enter (args:=[.slice MA 32 mc,.slice A n c,iZ i,iZ j]) Tryz.func57 U kL<|sC<|sM 42 (fcs 0) (λg0=>?_)
 refine sA<|sP (.slice MA 32 mc)<|sP (.slice A n c)<|sP (iZ i)<|sS (bv (UInt8.ofNat i)) (Quiet.pure (λw=>Cp w _ _ _ i om U U))<|sP (iZ j)<|sS (bv (UInt8.ofNat j)) (Quiet.pure (λw=>Cp w _ _ _ j om U U))<|Sy.make kR 5 #[bv (UInt8.ofNat i),bv (UInt8.ofNat j)] (λg=>.slice (pA g) 2 2) kF (λg1=>?_)
 refine Sy.make kR 24 #[.slice MA 32 mc,.slice A n c,.slice (pA g1) 2 2] (λg=>.slice (pA g) 3 3) kF (λg2=>?_)
 refine sS (fv (rgC bm x i j)) (qG 59 #[.string rgStep,.slice (pA g2) 3 3] (λw hw=>SF (nm:=rgStep) (a:=⟨MA,bm,mc⟩) (b:=⟨A,x,c⟩) (l:=[(UInt8.ofNat i),(UInt8.ofNat j)]) (k:=2) dZ (by unfold Sh.Tx.val; rw [hbm]) (by unfold Sh.Tx.val; rw [hx]) (⟨hms.below hw.below,by show bm.length≤mc; omega,hmc2⟩) (⟨hs0.below hw.below,by show x.length≤c; omega,hc2⟩) U dZ (hw.get (i:=1) rfl) (hw.get (i:=2) rfl) (by show bm.length+x.length≤999999900; omega) (htr.below hw.below htr.lt)))<|sW 0 g0 42 (fcs 0) (fcs (rgC bm x i j)) (wS 0 42 (fcs (rgC bm x i j)) U)<|sG<|Sy.ret ?_
 rw [show (fv (rgC bm x i j):Value)=fv (rgC bm x i j) from rfl]
 exact rC (v:=fv (rgC bm x i j)) 42 g0 0 (fcs (rgC bm x i j)) U Ak
theorem NO (w:World) (s e px py:Nat) (pi:Bool) (hs:s<K4) (he:e<K4) (hpx:px<K4) (hpy:py<K4):Calls Tryz.prog 58 #[fv s,fv e,pv px py pi] w (GetsN w (JX (rPt s e px py pi))):=by
 refine Sy.enter (args:=[fv s,fv e,pv px py pi]) Tryz.func58 U kL<|sC<|sM 42 (fcs s) (λg0=>?_)
 refine sM 42 (fcs e) (λg1=>?_)
 refine sM 48 (pcs px py pi) (λg2=>?_)
 refine sP (.slice none 0 0)<|sH (λj=>false) ?_
 refine sD 0 U (fv s) (qL 0 g0 0 4 42 42 (fcs s) rfl Ak)<|sD 1 U (pv (pX bP) (pY bP) (pI bP)) (qF 16 #[] (λw=>by rw [← Be]; exact Md w)) ?_
 obtain ⟨R1,hR1⟩:∃ P:Pt,P=Ec.nm Ae (s%Sc.pM) bP:=⟨_,rfl⟩
 have oR1:Ec.On R1:=by rw [hR1]; exact bP_on.nm fld _
 refine sD 2 U (pv (pX R1) (pY R1) (pI R1)) (qF 15 #[fv s,pv (pX bP) (pY bP) (pI bP)] (MN lP lP lP (CE bP_on) hR1.symm))<|sD 3 U (fv e) (qL 1 g1 0 4 42 42 (fcs e) rfl Ak)<|sD 4 U (pv px py pi) (qL 2 g2 0 9 48 48 (pcs px py pi) rfl Ac) ?_
 obtain ⟨R2,hR2⟩:∃ P:Pt,P=Ec.nm Ae (e%Sc.pM) (dec px py pi):=⟨_,rfl⟩
 have oR2:Ec.On R2:=by rw [hR2]; exact (Cy _ _ _).nm fld _
 refine sD 5 U (pv (pX R2) (pY R2) (pI R2)) (qF 15 #[fv e,pv px py pi] (MN lP lP lP U hR2.symm)) ?_
 obtain ⟨R3,hR3⟩:∃ P:Pt,P=Ec.add Ae R1 R2:=⟨_,rfl⟩
 have oR3:Ec.On R3:=by rw [hR3]; exact Ec.On.add fld oR1 oR2
 refine sD 6 U (pv (pX R3) (pY R3) (pI R3)) (qF 68 #[pv (pX R1) (pY R1) (pI R1),pv (pX R2) (pY R2) (pI R2)] (RX lP lP lP lP (CE oR1) (CE oR2)  hR3.symm))<|Sy.callND 7 U kR kR 42 #[pv (pX R3) (pY R3) (pI R3)] kF ((JX R3)) (λw hw=>by have q:=Hh w (pX R3) (pY R3) (pI R3) (Eh _) (Eg _); rw [(CE oR3)] at q; exact q) (λvq Mq hR0=>?_)
 obtain ⟨q8,sp8,cp8,rfl,hc8,rfl⟩:=hR0
 refine sZ 8 U (.slice (pA q8) 33 cp8)<|sI<|Sy.ret ?_
 exact I3 3 (q8,5,((Aw R3).map bv++sp8).toArray) rfl (v:=.slice (pA q8) 33 cp8) (.inl (show _=_ by kernel_rfl)) kR ⟨_,sp8,cp8,rfl,hc8,by rw [hR3,hR2,hR1]; rfl⟩
end Cu
end
section
namespace Cu
open Go.RowKit Sy
section
variable {NR:Nat} {nk:Nat→Nat} {X Y:Nat→Nat→Nat} {I:Nat→Nat→Bool}
theorem I2 (h:szB NR nk=false):CJ NR nk X Y I=false:=by unfold CJ; rw [h,Bool.false_and]
theorem L2 (h:¬ (1≤NR∧NR≤32∧∀ j,j<NR→1≤nk j∧nk j≤64)):szB NR nk=false:=by
 rw [← Bool.not_eq_true,Iq]
 exact h
theorem SC (h:NR<1):CJ NR nk X Y I=false:=I2 (L2 (λq=>om))
theorem SB (h:NR>32):CJ NR nk X Y I=false:=I2 (L2 (λq=>om))
theorem SE {k:Nat} (hk:k<NR) (h:nk k<1):CJ NR nk X Y I=false:=I2 (L2 (λq=>by have:=q.2.2 k hk; omega))
theorem SD {k:Nat} (hk:k<NR) (h:nk k>64):CJ NR nk X Y I=false:=I2 (L2 (λq=>by have:=q.2.2 k hk; omega))
theorem QH {k j:Nat} (hk:k<NR) (hj:j<nk k) (h:An (X k j) (Y k j) (I k j)=false):CJ NR nk X Y I=false:=by
 unfold CJ
 have:(List.range NR).any (FW nk X Y I)=true:=List.any_eq_true.2 ⟨k,List.mem_range.2 hk,List.any_eq_true.2 ⟨j,List.mem_range.2 hj,by unfold Et; rw [h]; rfl⟩⟩
 rw [this,Bool.not_true,Bool.and_false]
theorem MC (h1:¬ NR<1) (h2:¬ NR>32) (h3:∀ k,k<NR→(1≤nk k∧nk k≤64)∧∀ j,j<nk k→An (X k j) (Y k j) (I k j)=true):CJ NR nk X Y I=true:=by
 unfold CJ
 have hs:szB NR nk=true:=(Iq NR nk).2 ⟨by omega,by omega,λj hj=>(h3 j hj).1⟩
 have:(List.range NR).any (FW nk X Y I)=false:=by
  rw [List.any_eq_false]
  intro k hk
  rw [Bool.not_eq_true]
  unfold FW
  rw [List.any_eq_false]
  intro j hj
  unfold Et
  rw [(h3 k (List.mem_range.1 hk)).2 j (List.mem_range.1 hj)]
  decide
 rw [hs,this]
 rfl
end
def Aq (l:List UInt8):List (List Value):=l.map λb=>[bv b]
theorem A6 (l:List UInt8):(Aq l).length=l.length:=List.length_map ..
theorem Cw:∀ l:List UInt8,(Aq l).flatten=l.map bv
 | []=>rfl
 | b::l=>by
  show [bv b]++(Aq l).flatten=_
  rw [Cw l]
  rfl
theorem CQ (l:List UInt8):∀ y∈Aq l,y.length=1:=λy hy=>by obtain ⟨b,_,rfl⟩:=List.mem_map.1 hy; rfl
theorem B7 (l:List UInt8):∀ y∈Aq l, ∀ u∈y,u.oneCell'=true:=λy hy u hu=>by
 obtain ⟨b,_,rfl⟩:=List.mem_map.1 hy
 rw [List.mem_singleton.1 hu]
 rfl
theorem Dv (a b:List UInt8):Aq (a++b)=Aq a++Aq b:=List.map_append
theorem From.src {w0:Base} {L:AC} {A:Option Addr} {l:List UInt8} (hs:Sh.Src w0.world A l):From w0 L A (Aq l).flatten:=λw hw=>by
 rw [Cw]
 by_cases h0:l=[]
 ·subst h0; exact .inl U
 ·obtain ⟨b,o,rfl,h2,h3⟩:=hs h0
  refine .inr ⟨_,rfl,λj u hj=>?_⟩
  rw [BU]
  rw [List.getElem?_map] at hj
  cases hx:l[j]? with
  | none=>rw [hx] at hj; cases hj
  | some x =>
   rw [hx] at hj
   injection hj with hj
   rw [← hj]
   exact (hw.below.cell (p:=⟨b,o+j,none⟩) h2).trans (h3 j x hx)
theorem From.own {w0:Base} {L:AC} {i g:Nat} {t:TypeId} {l:List UInt8} {sp:List Value} (hL:L[i]? = some (g,t,(l.map bv++sp).toArray)):From w0 L (pA g) (Aq l).flatten:=by
 rw [Cw]
 refine From.blk hL ?_
 show ((l.map bv++sp).drop 0).take _=_
 rw [List.drop_zero,List.take_left' U]
theorem From.arr {w0:Base} {L:AC} {i g:Nat} {t:TypeId} {l:List UInt8} (hL:L[i]? = some (g,t,(l.map bv).toArray)):From w0 L (pA g) (Aq l).flatten:=by
 rw [Cw]
 refine From.blk hL ?_
 show ((l.map bv).drop 0).take _=_
 rw [List.drop_zero,List.take_of_length_le (Nat.le_refl _)]
theorem FM {g:Nat} {e:TypeId}:Slc.Is ⟨.slice (pA g) 0 0,[(g,e,#[])]⟩ e 1 (Aq []):=Slc.Is.mk' (cs:=[]) (by simp [Aq]) (by simp [Aq]) U U U (Nat.le_refl _) (Nat.zero_le _)
theorem P' {w:World} {A:Option Addr} {n:Nat} {l:List UInt8} (hn:l.length=n) (h:Lst w 1 A n (λi=>(Aq l).getD i [])):Sh.Src w A l:=λhne=>by
 obtain ⟨g,o,q⟩:=h
 obtain ⟨q1,q2,q3⟩:=q (by rw [← hn]; exact List.length_pos_iff.2 hne)
 refine ⟨g,o,q1,q2,λj u hj=>?_⟩
 have hl:=(List.getElem?_eq_some_iff.1 hj).1
 have q4:w.rangeAt g (o+j*1) ((Aq l).getD j []):=q3 j om
 rw [List.getD_eq_getElem?_getD,show (Aq l)[j]? = some [bv u] from by unfold Aq; rw [List.getElem?_map,hj]; rfl] at q4
 have q5:=AR q4 0 U
 rwa [Nat.mul_one,Nat.add_zero] at q5
theorem K1 {e:TypeId} {y:Slc} {l:List UInt8} (h:y.Is e 1 (Aq l)):∃ A c,y.v=.slice A l.length c∧l.length≤c∧c≤maxLen∧∀ {w0:Base} {w:World} {L:AC},St w0 w L→(∀ b∈y.bl,b∈L)→Sh.Src w A l:=by
 obtain ⟨A,c,h1,h2,h3,h4⟩:=h.out
 rw [A6] at h1 h2 h4
 exact ⟨A,c,h1,h2,h3,λhw hb=>P' U (h4 hw hb)⟩
noncomputable def Td:TypeInfo:=(Tryz.prog.info? 5).getD default
theorem EU:Tryz.prog.info? 5=some Td:=kZ
theorem Oy (w:World) (R:Option Addr) (NR cR:Nat) (a:Nat→Option Addr) (nk ck:Nat→Nat) (X Y:Nat→Nat→Nat) (I:Nat→Nat→Bool) (hX:∀ i k,X i k<K4) (hY:∀ i k,Y i k<K4) (hNR:NR≤4611686018427387904) (hnk:∀ i,nk i≤4611686018427387904) (hlr:Lst w 1 R NR (λi=>[.slice (a i) (nk i) (ck i)])) (hlk:∀ i,i<NR→Lst w 9 (a i) (nk i) (λk=>pml (X i k) (Y i k) (I i k))):Calls Tryz.prog 129 #[.slice R NR cR] w (Gets w (.bool (CJ NR nk X Y I))):=by
 have hlr0:=hlr
 obtain ⟨gR,oR,hR⟩:=hlr
 refine Sy.enter (args:=[.slice R NR cR]) Tryz.func129 U kL<|sC<|sP (.bool false)<|sG<|Sy.seq<|sC<|sP (.slice R NR cR)<|sP (iZ NR) ?_
 obtain ⟨b1,hb1⟩:=xE (decide (NR<1))
 refine sS (.bool b1) (qls U U U hb1)<|sP (.bool b1) ?_
 cases b1
 ·have lb1:=dN hb1
  refine sP (.slice R NR cR)<|sP (iZ NR) ?_
  obtain ⟨b2,hb2⟩:=xE (decide (NR>32))
  refine sS (.bool b2) (qgt U U U hb2)<|sP (.bool b2)<|sG ?_
  cases b2
  ·have lb2:=dN hb2
   refine sU<|Sy.skip<|Sy.then_<|Sy.seq<|sC<|sP (.int .i64 0)<|sG<|Sy.block<|Sy.loopH NR (λk1=>∀ i,i<k1→(1≤nk i∧nk i≤64)∧∀ j,j<nk i→An (X i j) (Y i j) (I i j)=true) (λk1=>[(0,.slice R NR cR),(3,iZ k1)]) (λk1=>[]) [] (M:=[]) (λi hi=>absurd hi (Nat.not_lt_zero _)) ac2 kR U (λk1 hk1 hh=>?_)
   have hh1:=hh
   refine Sy.seq<|sC<|sP (iZ k1)<|sP (.slice R NR cR)<|sP (iZ NR) ?_
   obtain ⟨b3,hb3⟩:=xE (decide (k1<NR))
   refine sS (.bool b3) (qls U U U hb3)<|sG ?_
   cases b3
   ·have lb3:=dN hb3
    refine sU<|Sy.exit<|Sy.then_exit<|Sy.then_exit ?_
    obtain rfl:NR=k1:=om
    refine Sy.in_exit<|sB<|sP (.bool true)<|sG<|Sy.ret ?_
    rw [show (.bool (CJ NR nk X Y I):Value)=.bool true from by rw [MC lb1 lb2 (λk hk=>hh1 k om)]]
    exact rV (.bool true) rfl
   ·have lb3:=dY hb3
    obtain ⟨gK,oK,hT⟩:=hlk k1 lb3
    have hnk9:=hnk k1
    refine sT<|Sy.skip<|Sy.then_<|Sy.seq<|Sy.block<|Sy.seq<|sC<|sP (.slice R NR cR)<|sP (iZ k1)<|sS (.pointer (some ⟨gR,oR+k1*1,none⟩)) (Quiet.pure (AJ 25 _ _ _ R gR oR NR cR k1 1 .i64 (hR om).1 U U U CY kF om))<|sS (.slice (a k1) (nk k1) (ck k1)) (Quiet.thereOne gR (oR+k1*1) 45 _ _ U kR (hR om).2.1 _ (AR ((hR om).2.2 k1 om) 0 U) CH U)<|sP (iZ ((nk k1))) ?_
    obtain ⟨b4,hb4⟩:=xE (decide ((nk k1)<1))
    refine sS (.bool b4) (qls U U U hb4)<|sP (.bool b4) ?_
    cases b4
    ·have lb4:=dN hb4
     refine sP (.slice R NR cR)<|sP (iZ k1)<|sS (.pointer (some ⟨gR,oR+k1*1,none⟩)) (Quiet.pure (AJ 25 _ _ _ R gR oR NR cR k1 1 .i64 (hR om).1 U U U CY kF om))<|sS (.slice (a k1) (nk k1) (ck k1)) (Quiet.thereOne gR (oR+k1*1) 45 _ _ U kR (hR om).2.1 _ (AR ((hR om).2.2 k1 om) 0 U) CH U)<|sP (iZ ((nk k1))) ?_
     obtain ⟨b5,hb5⟩:=xE (decide ((nk k1)>64))
     refine sS (.bool b5) (qgt U U U hb5)<|sP (.bool b5)<|sG ?_
     cases b5
     ·have lb5:=dN hb5
      refine sU<|Sy.skip<|sB<|sP (.int .i64 0)<|sG<|Sy.block<|Sy.loopH (nk k1) (λk2=>∀ j,j<k2→An (X k1 j) (Y k1 j) (I k1 j)=true) (λk2=>[(0,.slice R NR cR),(3,iZ k1),(4,iZ k2)]) (λk2=>[]) [] (M:=[]) (λi hi=>absurd hi (Nat.not_lt_zero _)) ac3 kR U (λk2 hk2 hh=>?_)
      have hh2:=hh
      refine Sy.seq<|sC<|sP (iZ k2)<|sP (.slice R NR cR)<|sP (iZ k1)<|sS (.pointer (some ⟨gR,oR+k1*1,none⟩)) (Quiet.pure (AJ 25 _ _ _ R gR oR NR cR k1 1 .i64 (hR om).1 U U U CY kF om))<|sS (.slice (a k1) (nk k1) (ck k1)) (Quiet.thereOne gR (oR+k1*1) 45 _ _ U kR (hR om).2.1 _ (AR ((hR om).2.2 k1 om) 0 U) CH U)<|sP (iZ ((nk k1))) ?_
      obtain ⟨b6,hb6⟩:=xE (decide (k2<(nk k1)))
      refine sS (.bool b6) (qls U U U hb6)<|sG ?_
      cases b6
      ·have lb6:=dN hb6
       refine sU<|Sy.exit<|Sy.then_exit<|Sy.then_exit ?_
       obtain rfl:nk k1=k2:=om
       refine Sy.in_exit<|Sy.in_<|Sy.then_<|Sy.region<|sP (iZ k1)<|sS (iZ (k1+1)) (qad U U U)<|sP (iZ (k1+1))<|Sy.nil ?_
       exact Sy.againH [] (M:=[]) om (λi hi=>(Nat.lt_succ_iff_lt_or_eq.1 hi).elim (hh1 i) (λh=>by subst h; exact ⟨⟨by omega,by omega⟩,λj hj=>hh2 j om⟩)) ac2 kR U
      ·have lb6:=dY hb6
       refine sT<|Sy.skip<|Sy.then_<|Sy.seq<|Sy.block<|sC<|sP (.slice R NR cR)<|sP (iZ k1)<|sS (.pointer (some ⟨gR,oR+k1*1,none⟩)) (Quiet.pure (AJ 25 _ _ _ R gR oR NR cR k1 1 .i64 (hR om).1 U U U CY kF om))<|sS (.slice (a k1) (nk k1) (ck k1)) (Quiet.thereOne gR (oR+k1*1) 45 _ _ U kR (hR om).2.1 _ (AR ((hR om).2.2 k1 om) 0 U) CH U)<|sP (iZ k2)<|sS (.pointer (some ⟨gK,oK+k2*9,none⟩)) (Quiet.pure (AJ 45 _ _ _ (a k1) gK oK (nk k1) (ck k1) k2 9 .i64 (hT om).1 U U U CH kF om))<|sS (pv (X k1 k2) (Y k1 k2) (I k1 k2)) (Quiet.there gK (oK+k2*9) 9 48 (pml (X k1 k2) (Y k1 k2) (I k1 k2)) _ _ U kR (hT om).2.1 ((hT om).2.2 k2 om) Ac U kR U _ U) ?_
       obtain ⟨b7,hb7⟩:=xE (An (X k1 k2) (Y k1 k2) (I k1 k2))
       refine sS (.bool b7) (qF 110 #[pv (X k1 k2) (Y k1 k2) (I k1 k2)] (λw=>by rw [hb7]; exact Ju w _ _ _ (hX _ _) (hY _ _)))<|sP (.bool b7)<|sA<|sP (.bool b7) ?_
       cases b7
       ·refine sP (.bool true) ?_
        refine sG<|sT<|sC<|sP (.bool false)<|sG<|Sy.ret<|Sy.in_ret<|Sy.then_ret<|Sy.then_ret<|Sy.in_ret<|Sy.in_ret<|Sy.then_ret<|Sy.then_ret<|Sy.in_ret<|Sy.then_ret ?_
        rw [show (.bool (CJ NR nk X Y I):Value)=.bool false from by rw [QH (k:=k1) (j:=k2) (by assumption) (by assumption) hb7.symm]]
        exact rV (.bool false) rfl
       ·refine sP (.bool false) ?_
        refine sG<|sU<|Sy.skip<|Sy.in_<|Sy.then_<|Sy.region<|sP (iZ k2)<|sS (iZ (k2+1)) (qad U U U)<|sP (iZ (k2+1))<|Sy.nil ?_
        exact Sy.againH [] (M:=[]) om (λj hj=>(Nat.lt_succ_iff_lt_or_eq.1 hj).elim (hh2 j) (λh=>by subst h; exact hb7.symm)) ac3 kR U
     ·have lb5:=dY hb5
      refine sT<|sC<|sP (.bool false)<|sG<|Sy.ret<|Sy.then_ret<|Sy.in_ret<|Sy.then_ret<|Sy.then_ret<|Sy.in_ret<|Sy.then_ret ?_
      rw [show (.bool (CJ NR nk X Y I):Value)=.bool false from by rw [SD (by assumption) lb5]]
      exact rV (.bool false) rfl
    ·have lb4:=dY hb4
     refine sN<|sN<|sN<|sN<|sN<|sN<|sP (.bool true)<|sG<|sT<|sC<|sP (.bool false)<|sG<|Sy.ret<|Sy.then_ret<|Sy.in_ret<|Sy.then_ret<|Sy.then_ret<|Sy.in_ret<|Sy.then_ret ?_
     rw [show (.bool (CJ NR nk X Y I):Value)=.bool false from by rw [SE (by assumption) lb4]]
     exact rV (.bool false) rfl
  ·have lb2:=dY hb2
   refine sT<|sC<|sP (.bool false)<|sG<|Sy.ret<|Sy.then_ret ?_
   rw [show (.bool (CJ NR nk X Y I):Value)=.bool false from by rw [SB lb2]]
   exact rV (.bool false) rfl
 ·have lb1:=dY hb1
  refine sN<|sN<|sN<|sP (.bool true)<|sG<|sT<|sC<|sP (.bool false)<|sG<|Sy.ret<|Sy.then_ret ?_
  rw [show (.bool (CJ NR nk X Y I):Value)=.bool false from by rw [SC lb1]]
  exact rV (.bool false) rfl
theorem Sa (w:World) (A:Option Addr) (m:List UInt8) (n c:Nat) (hm:m.length=n) (hm9:n≤999000000) (hc:n≤c) (hc2:c≤9223372036854775807) (hs0:Sh.Src w A m) (R:Option Addr) (NR cR:Nat) (a:Nat→Option Addr) (nk ck:Nat→Nat) (X Y:Nat→Nat→Nat) (I:Nat→Nat→Bool) (hX:∀ i k,X i k<K4) (hY:∀ i k,Y i k<K4) (hNR:NR≤4611686018427387904) (hnk:∀ i,nk i≤4611686018427387904) (hlr:Lst w 1 R NR (λi=>[.slice (a i) (nk i) (ck i)])) (hlk:∀ i,i<NR→Lst w 9 (a i) (nk i) (λk=>pml (X i k) (Y i k) (I i k))) (hN32:NR≤32) (hn64:∀ i,i<NR→nk i≤64) (htr:Sh.TabAt w 0):Calls Tryz.prog 14 #[.slice A n c,.slice R NR cR] w (GetsN w ((λvq Mq=>∃ (g:Nat) (sp:List Value) (cap:Nat),vq=.slice (pA g) 32 cap∧(32≤cap∧cap≤9223372036854775807)∧Mq=[(g,5,((rgM m NR nk X Y I).map bv++sp).toArray)]))):=by
 have hlr0:=hlr
 obtain ⟨gR,oR,hR⟩:=hlr
 refine Sy.enter (args:=[.slice A n c,.slice R NR cR]) Tryz.func14 U kL<|sC<|sP (.slice none 0 0)<|sA<|Sy.make kR 5 #[] (λg=>.slice (pA g) 0 0) kF (λg0=>?_)
 refine sP (.slice A n c)<|Sy.permS (M:=[]++((⟨.slice (pA g0) 0 0,[(g0,5,#[])]⟩:Slc).bl++[])) (by exact List.Perm.refl _)<|Sy.appendM kR 24 5 _ _ 1 1 CI EU U U U U dZ _ _ U (ys:=Aq m) FM kR (CQ _) (B7 _) A n c (by rw [A6]; exact hm) hc kR (λ_=>From.src hs0) (by simp [Aq]; omega) (by simp [Aq,maxLen]; omega) (λr1 hr1=>?_)
 refine sP (r1.v)<|sG<|Sy.seq<|sC<|sP (.int .i64 0)<|sG<|Sy.block<|Sy.loopT (Y:=Slc) NR (λk1 y1=>[(1,.slice R NR cR),(5,y1.v),(6,iZ k1)]) (λk1 y1=>[]++(y1.bl++[])) (λk1 y1=>y1.Is 5 1 (Aq (m++Bd nk X Y I k1))) r1 (by rw [show m++Bd nk X Y I 0=[]++m from List.append_nil m,Dv]; exact hr1) ac3 (λw hw=>hw) (λk1 y1 hk1 hh1=>?_)
 refine Sy.seq<|sC<|sP (iZ k1)<|sP (.slice R NR cR)<|sP (iZ NR) ?_
 obtain ⟨b1,hb1⟩:=xE (decide (k1<NR))
 refine sS (.bool b1) (qls U U U hb1)<|sG ?_
 cases b1
 ·have lb1:=dN hb1
  refine sU<|Sy.exit<|Sy.then_exit<|Sy.then_exit ?_
  obtain rfl:NR=k1:=om
  refine Sy.in_exit<|sB ?_
  obtain ⟨Ay,cy,hyv,hyc,hyc2,hys⟩:=K1 hh1
  refine sS (.slice Ay (m++Bd nk X Y I NR).length cy) (Quiet.pure (λw=>by rw [← hyv]; kernel_rfl))<|Sy.make kR 24 #[.slice Ay (m++Bd nk X Y I NR).length cy] (λg=>.slice (pA g) 1 1) kF (λg1=>?_)
  refine Sy.movT ?_
  obtain ⟨bM,hbM⟩:=xE (rgM m NR nk X Y I)
  have hbl:bM.length=32:=by rw [hbM]; exact E4 _ _ _ _ _ _
  refine sS (.agg (bM.map bv).toArray) (qG 44 #[.string rgRing,.slice (pA g1) 1 1] (λw hw=>by have hq:=CN hn64 X Y I NR (Nat.le_refl _); have q:=Sh.taggedR_any w rgRing (pA g1) [⟨Ay,m++Bd nk X Y I NR,cy⟩] 1 (Fg (hw.get (i:=0) rfl) (λt ht=>by rw [List.mem_singleton.1 ht]; exact ⟨hys hw (λb hb=>List.mem_append.2 (.inr (List.mem_append.2 (.inl hb)))),hyc,by simp only [maxLen] at hyc2; exact hyc2⟩)) (htr.below hw.below htr.lt) dZ (by simp [Sh.cat]; omega) (by show 1≤1000000000; decide); rw [hbM]; rw [show Sh.cat [⟨Ay,m++Bd nk X Y I NR,cy⟩]=m++Bd nk X Y I NR by simp [Sh.cat]] at q; exact q))<|Sy.callN kR 43 #[.agg (bM.map bv).toArray] kF ((λvq Mq=>∃ (g:Nat) (sp:List Value) (cap:Nat),vq=.slice (pA g) 32 cap∧(32≤cap∧cap≤9223372036854775807)∧Mq=[(g,5,(bM.map bv++sp).toArray)])) (λw hw=>Fh w bM hbl) (λvq Mq hR0=>?_)
  obtain ⟨qx,spx,cpx,rfl,hcx,rfl⟩:=hR0
  refine Sy.movT<|sP (.slice (pA qx) 32 cpx)<|sG<|Sy.ret ?_
  exact I3 1 (qx,5,(bM.map bv++spx).toArray) rfl (v:=.slice (pA qx) 32 cpx) (.inl (show _=_ by kernel_rfl)) kR ⟨qx,spx,cpx,rfl,hcx,by rw [hbM]⟩
 ·have lb1:=dY hb1
  have hnk1:=hn64 k1 lb1
  obtain ⟨gK,oK,hT⟩:=hlk k1 lb1
  have lK:=lb1
  refine sT<|Sy.skip<|Sy.then_<|Sy.seq<|Sy.block<|sC<|sP (y1.v)<|sP (.slice R NR cR)<|sP (iZ k1)<|sS (.pointer (some ⟨gR,oR+k1*1,none⟩)) (Quiet.pure (AJ 25 _ _ _ R gR oR NR cR k1 1 .i64 (hR om).1 U U U CY kF om))<|sS (.slice (a k1) (nk k1) (ck k1)) (Quiet.thereOne gR (oR+k1*1) 45 _ _ U kR (hR om).2.1 _ (AR ((hR om).2.2 k1 om) 0 U) CH U)<|sP (iZ ((nk k1)))<|sS (bv (UInt8.ofNat (nk k1))) (Quiet.pure (λw=>Cp w _ _ _ (nk k1) om U U))<|Sy.make kR 5 #[bv (UInt8.ofNat (nk k1))] (λg=>.slice (pA g) 1 1) kF (λg2=>?_)
  refine Sy.movT<|Sy.appendM kR 24 5 _ _ 1 1 CI EU U U U U dZ _ _ U (ys:=Aq [(UInt8.ofNat (nk k1))]) hh1 kR (CQ _) (B7 _) (pA g2) 1 1 U (Nat.le_refl _) kR (λ_=>From.arr (i:=0) (t:=5) (l:=[(UInt8.ofNat (nk k1))]) kR) (by have hq:=CN hn64 X Y I _ (Nat.le_of_lt lK); simp only [A6,List.length_append,List.length_cons,List.length_nil,C5]; omega) (by have hq:=CN hn64 X Y I _ (Nat.le_of_lt lK); simp only [A6,List.length_append,List.length_cons,List.length_nil,C5,maxLen]; omega) (λr2 hr2=>?_)
  refine sP (r2.v)<|sA<|sP (.int .i64 0)<|sG<|Sy.block<|Sy.loopT (Y:=Slc) (nk k1) (λk2 y2=>[(1,.slice R NR cR),(5,y2.v),(6,iZ k1),(7,iZ k2)]) (λk2 y2=>[]++(y2.bl++[])) (λk2 y2=>y2.Is 5 1 (Aq (m++(Bd nk X Y I k1++(UInt8.ofNat (nk k1)::Ei (X k1) (Y k1) (I k1) k2))))) r2 (by rw [show m++(Bd nk X Y I k1++(UInt8.ofNat (nk k1)::Ei (X k1) (Y k1) (I k1) 0))=(m++Bd nk X Y I k1)++[UInt8.ofNat (nk k1)] from (List.append_assoc ..).symm,Dv]; exact hr2) ac4 (λw hw=>St.pick (pre:=[(g2,5,#[bv (UInt8.ofNat (nk k1))])]) (M:=[]) [] dZ kR hw) (λk2 y2 hk2 hh2=>?_)
  refine Sy.seq<|sC<|sP (iZ k2)<|sP (.slice R NR cR)<|sP (iZ k1)<|sS (.pointer (some ⟨gR,oR+k1*1,none⟩)) (Quiet.pure (AJ 25 _ _ _ R gR oR NR cR k1 1 .i64 (hR om).1 U U U CY kF om))<|sS (.slice (a k1) (nk k1) (ck k1)) (Quiet.thereOne gR (oR+k1*1) 45 _ _ U kR (hR om).2.1 _ (AR ((hR om).2.2 k1 om) 0 U) CH U)<|sP (iZ ((nk k1))) ?_
  obtain ⟨b2,hb2⟩:=xE (decide (k2<(nk k1)))
  refine sS (.bool b2) (qls U U U hb2)<|sG ?_
  cases b2
  ·have lb2:=dN hb2
   refine sU<|Sy.exit<|Sy.then_exit<|Sy.then_exit ?_
   obtain rfl:k2=nk k1:=om
   refine Sy.in_exit<|Sy.in_<|Sy.then_<|Sy.region<|sP (iZ k1)<|sS (iZ (k1+1)) (qad U U U)<|sP (iZ (k1+1))<|Sy.nil ?_
   exact Sy.againT (y2) om (hh2) ac3 (λw hw=>hw)
  ·have lb2:=dY hb2
   refine sT<|Sy.skip<|Sy.then_<|Sy.seq<|Sy.block<|Sy.region<|sP (y2.v)<|sP (.slice R NR cR)<|sP (iZ k1)<|sS (.pointer (some ⟨gR,oR+k1*1,none⟩)) (Quiet.pure (AJ 25 _ _ _ R gR oR NR cR k1 1 .i64 (hR om).1 U U U CY kF om))<|sS (.slice (a k1) (nk k1) (ck k1)) (Quiet.thereOne gR (oR+k1*1) 45 _ _ U kR (hR om).2.1 _ (AR ((hR om).2.2 k1 om) 0 U) CH U)<|sP (iZ k2)<|sS (.pointer (some ⟨gK,oK+k2*9,none⟩)) (Quiet.pure (AJ 45 _ _ _ (a k1) gK oK (nk k1) (ck k1) k2 9 .i64 (hT om).1 U U U CH kF om))<|sS (pv (X k1 k2) (Y k1 k2) (I k1 k2)) (Quiet.there gK (oK+k2*9) 9 48 (pml (X k1 k2) (Y k1 k2) (I k1 k2)) _ _ U kR (hT om).2.1 ((hT om).2.2 k2 om) Ac U kR U _ U)<|Sy.callN kR 42 #[pv (X k1 k2) (Y k1 k2) (I k1 k2)] kF ((JX (dec (X k1 k2) (Y k1 k2) (I k1 k2)))) (λw hw=>Hh w _ _ _ (hX _ _) (hY _ _)) (λvq Mq hR0=>?_)
   obtain ⟨q8,sp8,cp8,rfl,hc8,rfl⟩:=hR0
   refine Sy.movT<|Sy.appendM kR 24 5 _ _ 1 1 CI EU U U U U dZ _ _ U (ys:=Aq (Aw (dec (X k1 k2) (Y k1 k2) (I k1 k2)))) hh2 kR (CQ _) (B7 _) (pA q8) 33 cp8 (by rw [A6]; exact (Ap _)) hc8.1 kR (λ_=>From.own (i:=0) (t:=5) (sp:=sp8) kR) (by have hq:=CN hn64 X Y I _ (Nat.le_of_lt lK); simp only [A6,List.length_append,List.length_cons,List.length_nil,C5]; omega) (by have hq:=CN hn64 X Y I _ (Nat.le_of_lt lK); simp only [A6,List.length_append,List.length_cons,List.length_nil,C5,maxLen]; omega) (λr3 hr3=>?_)
   refine sP (r3.v)<|Sy.nil<|Sy.in_<|Sy.then_<|Sy.region<|sP (iZ k2)<|sS (iZ (k2+1)) (qad U U U)<|sP (iZ (k2+1))<|Sy.nil ?_
   exact Sy.againT (r3) om (by rw [show m++(Bd nk X Y I k1++(UInt8.ofNat (nk k1)::Ei (X k1) (Y k1) (I k1) (k2+1)))=(m++(Bd nk X Y I k1++(UInt8.ofNat (nk k1)::Ei (X k1) (Y k1) (I k1) k2)))++Aw (dec (X k1 k2) (Y k1 k2) (I k1 k2)) by show m++(Bd nk X Y I k1++(UInt8.ofNat (nk k1)::(Ei (X k1) (Y k1) (I k1) k2++_)))=_; simp only [List.append_assoc,List.cons_append],Dv]; exact hr3) ac4 (λw hw=>St.pick (pre:=[(q8,5,((Aw (dec (X k1 k2) (Y k1 k2) (I k1 k2))).map bv++sp8).toArray)]) (M:=[]) [] dZ kR hw)
end Cu
end
section
namespace Cu
open Go.RowKit Sy
theorem St.pickX {w0:Base} {w:World} {pre A D M N:AC} (is:List Nat) (hn:is.Nodup) (hm:is.map (λi=>pre[i]?)=(M++N).map some) (hw:St w0 w (pre++(A++D))):St w0 w (M++(A++N)) :=
 Sy.St.pick2 (T:=[]) is hn hm (hw.less ((List.Sublist.refl _).append ((List.Sublist.refl _).append (List.nil_sublist _))))
def XtR (l:List UInt8) (j:Nat) (xt:Sh.Tx) (xb:AC):Prop:=∃ q sp,xt.A=some ⟨q,0,none⟩∧xt.l=l∧xb=[(q,5,(l.map bv++sp).toArray)]∧l.length=B2 j∧B2 j≤xt.c∧xt.c≤9223372036854775807
section
variable {l:List UInt8} {j:Nat} {xt:Sh.Tx} {xb:AC} {w0:Base} {w:World} {L:AC}
theorem Pv:∀ j,B2 j≤33
 | 0=>by decide
 | _+1=>Nat.le_refl _
theorem XtR.src (h:XtR l j xt xb) (hw:St w0 w L) (hb:∀ b∈xb,b∈L):Sh.Src w xt.A l:=by
 obtain ⟨q,sp,h1,_,h2,_⟩:=h
 rw [h1]
 exact EK (hw.blk _ _ _ (hb _ (by rw [h2]; exact List.mem_singleton.2 U))).2
theorem XtR.len (h:XtR l j xt xb):l.length=B2 j∧B2 j≤xt.c∧xt.c≤9223372036854775807:=by
 obtain ⟨_,_,_,_,_,h⟩:=h
 exact h
theorem XtR.val (h:XtR l j xt xb):xt.val=.slice xt.A (B2 j) xt.c:=by
 obtain ⟨_,_,_,h0,_,h,_⟩:=h
 unfold Sh.Tx.val
 rw [h0,h]
theorem XtR.ok (h:XtR l j xt xb):∀ w L,St w0 w L→(∀ b∈xb,b∈L)→xt.ok w:=λw L hw hb=>by
 have hs:=h.src hw hb
 obtain ⟨q,sp,h1,h0,h2,h3,h4,h5⟩:=h
 exact ⟨by rw [h0]; exact hs,by rw [h0]; omega,h5⟩
end
def eC (s:Nat→Nat) (bm:List UInt8) (i:Nat) (X Y:Nat→Nat) (I:Nat→Bool) (d:List UInt8) (j:Nat):Nat:=rgC bm (alX s bm i 0 X Y I d j) i j
theorem Tk (s:Nat→Nat) (bm:List UInt8) (i:Nat) (X Y:Nat→Nat) (I:Nat→Bool) (d:List UInt8) (j:Nat):eC s bm i X Y I d j<K4:=Ep _ _ _ _
def EsR (s:Nat→Nat) (bm:List UInt8) (i:Nat) (X Y:Nat→Nat) (I:Nat→Bool) (d:List UInt8) (k:Nat) (v:Value) (M:AC):Prop:=∃ (y:Slc) (xt:Sh.Tx) (xb:AC),v=.tuple #[y.v,.slice xt.A (B2 k) xt.c]∧M=y.bl++xb∧y.Is 42 4 ((List.range k).map λj=>fws (eC s bm i X Y I d j))∧XtR (alX s bm i 0 X Y I d k) k xt xb
theorem RD (w:World) (MA:Option Addr) (bm:List UInt8) (mc:Nat) (hbm:bm.length=32) (hmc:32≤mc) (hmc2:mc≤9223372036854775807) (hms:Sh.Src w MA bm) (i:Nat) (hi:i<256) (KA:Option Addr) (KN kc:Nat) (X Y:Nat→Nat) (I:Nat→Bool) (hX:∀ k,X k<K4) (hY:∀ k,Y k<K4) (hlk:Lst w 9 KA KN (λk=>pml (X k) (Y k) (I k))) (d:List UInt8) (hd:d.length=32) (WA:Option Addr) (WN wc:Nat) (s:Nat→Nat) (hs4:∀ k,s k<K4) (hlw:Lst w 4 WA WN (λk=>fws (s k))) (K:Nat) (hK:K≤256) (hK1:K≤KN) (hK2:K≤WN) (htr:Sh.TabAt w 0):Calls Tryz.prog 17 #[.slice MA 32 mc,iZ i,.slice KA KN kc,.agg (d.map bv).toArray,.slice WA WN wc,iZ K] w (GetsN w (EsR s bm i X Y I d K)):=by
 obtain ⟨gK,oK,hT⟩:=hlk
 obtain ⟨gS,oS,hS⟩:=hlw
 refine Sy.enter (args:=[.slice MA 32 mc,iZ i,.slice KA KN kc,.agg (d.map bv).toArray,.slice WA WN wc,iZ K]) Tryz.func17 U kL<|sC<|sM 23 (d.map bv).toArray (λg0=>?_)
 refine sP (.slice none 0 0)<|sP (.slice none 0 0)<|sA<|sP (.slice none 0 0)<|sA<|sS (.agg (d.map bv).toArray) (Quiet.load 0 g0 0 32 23 23 (d.map bv).toArray _ _ U kR kR D6 U kR _ (CW d hd) (Ct d hd))<|Sy.callN kR 43 #[.agg (d.map bv).toArray] kF ((λvq Mq=>∃ (g:Nat) (sp:List Value) (cap:Nat),vq=.slice (pA g) 32 cap∧(32≤cap∧cap≤9223372036854775807)∧Mq=[(g,5,(d.map bv++sp).toArray)])) (λw hw=>Fh w d hd) (λvq Mq hR0=>?_)
 obtain ⟨qx,spx,cpx,rfl,hcx,rfl⟩:=hR0
 refine sP (.slice (pA qx) 32 cpx)<|sG<|Sy.seq<|sC<|sP (.int .i64 0)<|sG<|Sy.block<|Sy.loopT (Y:=Slc×Sh.Tx×AC) K (λk1 y1=>[(0,.slice MA 32 mc),(1,iZ i),(2,.slice KA KN kc),(4,.slice WA WN wc),(5,iZ K),(14,y1.1.v),(15,.slice y1.2.1.A (B2 k1) y1.2.1.c),(16,iZ k1)]) (λk1 y1=>[(g0,23,(d.map bv).toArray)]++(y1.1.bl++y1.2.2)) (λk1 y1=>y1.1.Is 42 4 ((List.range k1).map λj=>fws (eC s bm i X Y I d j))∧XtR (alX s bm i 0 X Y I d k1) k1 y1.2.1 y1.2.2) (nilS,(⟨some ⟨qx,0,none⟩,d,cpx⟩:Sh.Tx),[(qx,5,(d.map bv++spx).toArray)]) ⟨Slc.Is.nil _ _,qx,spx,rfl,rfl,rfl,hd,hcx.1,hcx.2⟩ ac8 (λw hw=>hw) (λk1 y1 hk1 hh1=>?_)
 refine Sy.seq<|sC<|sP (iZ k1)<|sP (iZ K) ?_
 obtain ⟨b1,hb1⟩:=xE (decide (k1<K))
 refine sS (.bool b1) (qls U U U hb1)<|sG ?_
 cases b1
 ·have lb1:=dN hb1
  refine sU<|Sy.exit<|Sy.then_exit<|Sy.then_exit ?_
  obtain rfl:K=k1:=om
  refine Sy.in_exit<|sB<|sP (y1.1.v)<|sP (.slice y1.2.1.A (B2 K) y1.2.1.c)<|sP (y1.1.v)<|sP (.slice y1.2.1.A (B2 K) y1.2.1.c)<|sG<|Sy.ret ?_
  exact BJ (y1.1.bl++y1.2.2) rfl (v:=y1.1.v) (u:=.slice y1.2.1.A (B2 K) y1.2.1.c) (.inl (show _=_ by kernel_rfl)) (.inl (show _=_ by kernel_rfl)) (λw hw=>hw.less (List.sublist_append_right _ _)) ⟨y1.1,y1.2.1,y1.2.2,rfl,rfl,hh1.1,hh1.2⟩
 ·have lb1:=dY hb1
  refine sT<|Sy.skip<|Sy.then_<|Sy.seq<|Sy.block<|sC<|sP (.slice MA 32 mc)<|sP (.slice y1.2.1.A (B2 k1) y1.2.1.c)<|sP (iZ i)<|sP (iZ k1)<|sS (fv (eC s bm i X Y I d k1)) (qG 57 #[.slice MA 32 mc,.slice y1.2.1.A (B2 k1) y1.2.1.c,iZ i,iZ k1] (λw hw=>Mv w MA bm mc hbm hmc hmc2 (hms.below hw.below) y1.2.1.A _ (B2 k1) y1.2.1.c hh1.2.len.1 (by have:=Pv k1; omega) hh1.2.len.2.1 hh1.2.len.2.2 (hh1.2.src hw (λb hb=>List.mem_append.2 (.inr (List.mem_append.2 (.inr hb))))) i k1 om om (htr.below hw.below htr.lt)))<|sM 42 (fcs 0) (λg1=>?_)
  refine Sy.movT<|sW 1 g1 42 (fcs 0) (fcs (eC s bm i X Y I d k1)) (wS 0 42 (fcs (eC s bm i X Y I d k1)) U)<|Sy.setT<|sA<|sP (y1.1.v)<|sS (fv (eC s bm i X Y I d k1)) (qL 1 g1 0 4 42 42 (fcs (eC s bm i X Y I d k1)) U Ak)<|Sy.make kR 42 (fcs (eC s bm i X Y I d k1)) (λg=>.slice (pA g) 1 1) kF (λg2=>?_)
  refine Sy.movT<|Sy.appendR kR 51 42 _ _ 4 32 B3 Du U U U U dZ _ _ U hh1.1 kR (fws (eC s bm i X Y I d k1)) U (C2 _) 2 g2 42 kR kR (by rw [List.length_map,List.length_range]; omega) (by rw [List.length_map,List.length_range]; simp only [maxLen]; omega) (λr1 hr1=>?_)
  refine sP (r1.v)<|sG<|Sy.regionD (λj=>false) kR<|sZ 0 U (.slice WA WN wc)<|sZ 1 U (iZ k1)<|sD 2 U (.pointer (some ⟨gS,oS+k1*4,none⟩)) (Quiet.pure (AJ 51 _ _ _ WA gS oS WN wc k1 4 .i64 (hS om).1 U U U B3 kF om))<|sD 3 U (fv (s k1)) (Quiet.there gS (oS+k1*4) 4 42 (fws (s k1)) _ _ U kR (hS om).2.1 ((hS om).2.2 k1 om) Ak U kR U _ U)<|sD 4 U (fv (eC s bm i X Y I d k1)) (qL 1 g1 0 4 42 42 (fcs (eC s bm i X Y I d k1)) U Ak)<|sZ 5 U (.slice KA KN kc)<|sZ 6 U (iZ k1)<|sD 7 U (.pointer (some ⟨gK,oK+k1*9,none⟩)) (Quiet.pure (AJ 45 _ _ _ KA gK oK KN kc k1 9 .i64 (hT om).1 U U U CH kF om))<|sD 8 U (pv (X k1) (Y k1) (I k1)) (Quiet.there gK (oK+k1*9) 9 48 (pml (X k1) (Y k1) (I k1)) _ _ U kR (hT om).2.1 ((hT om).2.2 k1 om) Ac U kR U _ U)<|Sy.callND 9 U kR kR 58 #[fv (s k1),fv (eC s bm i X Y I d k1),pv (X k1) (Y k1) (I k1)] kF ((JX (rPt (s k1) (eC s bm i X Y I d k1) (X k1) (Y k1) (I k1)))) (λw hw=>NO w _ _ _ _ _ (hs4 _) (Tk _ _ _ _ _ _ _ _) (hX _) (hY _)) (λvq Mq hR0=>?_)
  obtain ⟨q8,sp8,cp8,rfl,hc8,rfl⟩:=hR0
  refine Sy.movTD<|sZ 10 U (.slice (pA q8) 33 cp8)<|sE<|Sy.in_<|Sy.then_<|Sy.region<|sP (iZ k1)<|sS (iZ (k1+1)) (qad U U U)<|sP (iZ (k1+1))<|Sy.nil ?_
  exact Sy.againT ((r1,(⟨some ⟨q8,0,none⟩,Aw (rPt (s k1) (eC s bm i X Y I d k1) (X k1) (Y k1) (I k1)),cp8⟩:Sh.Tx),[(q8,5,((Aw (rPt (s k1) (eC s bm i X Y I d k1) (X k1) (Y k1) (I k1))).map bv++sp8).toArray)])) om (⟨by rw [List.range_succ,List.map_append]; exact hr1,by rw [C6]; exact ⟨q8,sp8,rfl,rfl,rfl,Ap _,hc8.1,hc8.2⟩⟩) ac8 (λw hw=>St.pickX (pre:=[(g0,23,(d.map bv).toArray),(g1,42,(fcs (eC s bm i X Y I d k1))),(g2,42,(fcs (eC s bm i X Y I d k1))),(q8,5,((Aw (rPt (s k1) (eC s bm i X Y I d k1) (X k1) (Y k1) (I k1))).map bv++sp8).toArray)]) (M:=[(g0,23,(d.map bv).toArray)]) (N:=[(q8,5,((Aw (rPt (s k1) (eC s bm i X Y I d k1) (X k1) (Y k1) (I k1))).map bv++sp8).toArray)]) [0,3] dZ kR hw)
end Cu
end
section
namespace Cu
open Go.RowKit Sy
section
variable (s v:Nat→Nat→Nat) (sn vn:Nat→Nat)
end
section
variable {s v:Nat→Nat→Nat} {sn vn:Nat→Nat} {d d2:List UInt8} {NW NV:Nat}
end
end Cu
end
section
namespace Sy
open Go.RowKit
section
variable {L M:AC} {w0:Base} {w:World}
theorem flat_perm {ls ms:List AC} (is:List Nat) (hi:is.isPerm (List.range ls.length)=true) (hm:is.map (λi=>ls[i]?)=ms.map some) (hL:L=ls.flatten) (hM:M=ms.flatten):L.Perm M:=by
 rw [hL,hM]
 exact (I9 is hi hm).flatten
theorem St.parts {ls ms:List AC} (os:List AC) (is:List Nat) (hi:is.isPerm (List.range ls.length)=true) (hm:is.map (λi=>ls[i]?)=(ms++os).map some) (hL:L=ls.flatten) (hM:M=ms.flatten) (hw:St w0 w L):St w0 w M:=by
 have h1:L.Perm (M++os.flatten):=by
  rw [hL,hM, ← List.flatten_append]
  exact (I9 is hi hm).flatten
 exact (hw.perm h1).less (List.sublist_append_left _ _)
end
section
variable {f:Nat→List Value} {s m k o:Nat} {sp:List Value}
theorem JH (h:∀ j,(f j).length=s) (hk:k<m) (ho:o=0+k*s):Value.agg (((AO f m++sp).toArray.toList.drop o).take s).toArray=.agg (f k).toArray:=by
 show Value.agg (((AO f m++sp).drop o).take s).toArray=_
 rw [show o=k*s by omega,DJ hk,List.append_assoc,List.drop_append_of_le_length (by rw [A1 h]; exact Nat.le_refl _),List.drop_of_length_le (by rw [A1 h]; exact Nat.le_refl _),List.nil_append,List.append_assoc,List.take_left' (h k)]
end
section
variable {r:Nat→Slc} {n i:Nat} {pre M R D E:AC} {b:Nat×TypeId×Array Value} {v:Value} {w0:Base} {w:World}
theorem end_front:((pre++R)++D).Perm (pre++(D++R)):=by
 rw [List.append_assoc]
 exact List.perm_append_comm.append_left pre
theorem end_front2:((pre++R)++(D++E)).Perm (pre++(D++(E++R))):=by
 rw [← List.append_assoc D]
 exact end_front
theorem St.row_in (hi:i<n) (h:r i=nilS) (hw:St w0 w (M++([b]++(Av r n++R)))):St w0 w (M++(Av (CO r i ⟨v,[b]⟩) n++R)):=by
 refine hw.perm (List.Perm.append_left M ?_)
 have h1:=Fj r hi
 rw [h] at h1
 have h2:(Av r n).Perm (Dy r n i):=h1
 have h3:=IC (r:=r) (x:=⟨v,[b]⟩) hi
 rw [← List.append_assoc]
 exact (((h2.append_left [b]).trans h3)).append_right R
end
end Sy
end
section
namespace Cu
open Go.RowKit Sy
def sgx (d:List UInt8) (u:Value):List Value:=d.map bv++[u]
section
variable {d z:List UInt8} {u x:Value}
theorem GG (h:d.length=32):(sgx d u).length=33:=by simp [sgx,h]
theorem OD (h:d.length=32):(sgx d u).toArray[32]? = some u:=by
 rw [List.getElem?_toArray]
 unfold sgx
 rw [List.getElem?_append_right (by rw [List.length_map,h]; exact Nat.le_refl _),List.length_map,h]
 rfl
theorem L6 (h:d.length=32):(sgx d u).toArray.setIfInBounds 32 x=(sgx d x).toArray:=by
 rw [List.setIfInBounds_toArray]
 unfold sgx
 rw [List.set_append_right _ _ (by rw [List.length_map,h]; exact Nat.le_refl _),List.length_map,h]
 rfl
theorem OC (h:d.length=32):32<(sgx d u).toArray.size:=by rw [List.size_toArray,GG h]; decide
end
theorem TxsIs.own {w0:Base} {e:TypeId} {g:Nat} {t:Sh.Tx} {v:Value} (T':AC) (hv:t.val=v) (hok:∀ w L,St w0 w L→(∀ b∈T',b∈L)→t.ok w):TxsIs w0 e ⟨.slice (pA g) 1 1,[(g,e,#[v])]⟩ T' [t]:=by
 subst hv
 refine ⟨Slc.Is.mk' (cs:=[t.val]) (λx hx=>?_) (λx hx u hu=>?_) rfl U U (Nat.le_refl _) dZ,λw L hw hT x hx=>?_⟩
 ·rw [List.mem_singleton.1 hx]; rfl
 ·rw [List.mem_singleton.1 hx] at hu
  rw [List.mem_singleton.1 hu]; rfl
 ·rw [List.mem_singleton.1 hx]; exact hok w L hw hT
theorem XtR.li {l:List UInt8} {j:Nat} {xt:Sh.Tx} {xb:AC} (h:XtR l j xt xb):xt.l=l:=by
 obtain ⟨_,_,_,h0,_⟩:=h
 exact h0
theorem RowsAre.full {r:Nat→Slc} {e:TypeId} {sz k:Nat} {f:Nat→Nat→List Value} {n:Nat→Nat} {x:Slc} (h:RowsAre r e sz f (Bw n k 0)) (hx:x.Is e sz ((List.range (n k)).map (f k))):RowsAre (CO r k x) e sz f (Bw n (k+1) 0):=λi=>by
 rw [Fw]
 by_cases hi:i=k
 ·subst hi
  rw [Cm,DZ]
  exact hx
 ·rw [DO hi]
  have q:=h i
  have e:Bw n k (n k) i=Bw n k 0 i:=by unfold Bw; simp [hi]
  rw [e]
  exact q
def Ps (d:List UInt8) (f:Nat→Nat→List Value) (nk:Nat→Nat) (NR:Nat) (v:Value) (M:AC):Prop:=∃ g cap sp r,v=AX d (pA g) NR cap∧NR≤cap∧M=(g,51,(AO (λj=>[(r j).v]) NR++sp).toArray)::Av r NR∧RowsAre r 42 4 f (Bw nk NR 0)
theorem J_ {r:Nat→Slc} {k:Nat} {x:Slc}:(List.range k).map (λi=>[(CO r k x i).v])=(List.range k).map λi=>[(r i).v] :=
 List.map_congr_left λi hi=>by rw [DO (by have:=List.mem_range.1 hi; omega)]
end Cu
end
section
namespace Cu
open Go.RowKit Sy
theorem OW (k e x:Nat) {px py:Nat} {pi:Bool} (hd:dec px py pi=evP x):rPt (Sc.subP k (Sc.mulP e x)) e px py pi=evP k:=by
 have oB:Ec.On bP:=bP_on
 have oX:Ec.On (evP x):=Lf x
 unfold rPt
 rw [hd,GA oB,GA oX]
 have e1:Ec.nm Ae (Sc.subP k (Sc.mulP e x)) bP=Ec.add Ae (Ec.nm Ae k bP) (Ec.neg (Ec.nm Ae e (evP x))):=by
  unfold Sc.subP
  rw [GA oB,Ec.nm_add fld oB]
  have e2:Ec.nm Ae (Sc.pM - Sc.mulP e x%Sc.pM) bP=Ec.nm Ae (Sc.negP (Sc.mulP e x)%Sc.pM) bP:=by
   unfold Sc.negP
   rw [GA oB,GA oB]
  rw [e2,Qh oB,GA oB]
  unfold Sc.mulP evP
  rw [GA oB,Ec.nm_mul fld oB,GA oB]
 rw [e1]
 have o1:=oX.nm fld e
 rw [Ec.assoc fld (oB.nm fld k) o1.neg o1,Ec.neg_add,Ec.add_zero]
 unfold evP
 rw [GA oB]
theorem Oh {x px py:Nat} {pi:Bool} (h:DD x px py pi=true):dec px py pi=evP x:=by
 unfold DD Cg at h
 rw [Bool.and_eq_true,Bool.and_eq_true,decide_eq_true_iff,decide_eq_true_iff,beq_iff_eq] at h
 rw [← h.1, ← h.2.1, ← h.2.2]
 exact CE (Lf x)
section
variable {s s':Nat→Nat} {bm x:List UInt8} {i:Nat} {X Y:Nat→Nat} {I:Nat→Bool}
theorem Fy {f:Nat}:∀ k,(∀ j,j<k→s (f+j)=s' (f+j))→alX s bm i f X Y I x k=alX s' bm i f X Y I x k
 | 0,_=>rfl
 | k+1,h=>by
  show Aw (rPt (s (f+k)) (rgC bm (alX s bm i f X Y I x k) i (f+k)) (X (f+k)) (Y (f+k)) (I (f+k)))=Aw (rPt (s' (f+k)) (rgC bm (alX s' bm i f X Y I x k) i (f+k)) (X (f+k)) (Y (f+k)) (I (f+k)))
  rw [Fy k (λj hj=>h j om),h k (Nat.lt_succ_self k)]
theorem Mi (f:Nat):∀ k,alX s bm i 0 X Y I x (f+k)=alX s bm i f X Y I (alX s bm i 0 X Y I x f) k
 | 0=>rfl
 | k+1=>by
  rw [← Nat.add_assoc,C6,Mi f k]
  rfl
end
section
variable {bm sd:List UInt8} {X Y:Nat→Nat→Nat} {I:Nat→Nat→Bool} {at_ nk sx:Nat→Nat} {d:List UInt8}
theorem OH {i j:Nat} (h:j≠at_ i):sgS bm sd X Y I at_ sx d i j=rgF bm sd i j:=if_neg h
theorem R8 (i:Nat):sgS bm sd X Y I at_ sx d i (at_ i)=Sc.subP (rgN bm sd i) (Sc.mulP (sgE bm sd X Y I at_ d i) (sx i)):=if_pos U
theorem L8 (i j:Nat):sgS bm sd X Y I at_ sx d i j%Sc.pM=sgS bm sd X Y I at_ sx d i j:=by
 unfold sgS
 split
 ·exact Nat.mod_mod _ _
 ·exact Nat.mod_mod _ _
theorem OG (i:Nat):alX (sgS bm sd X Y I at_ sx d i) bm i 0 (X i) (Y i) (I i) d (at_ i)=alX (rgF bm sd i) bm i 0 (X i) (Y i) (I i) d (at_ i) :=
 Fy _ λj hj=>OH om
theorem My {i:Nat} (h:DD (sx i) (X i (at_ i)) (Y i (at_ i)) (I i (at_ i))=true):alX (sgS bm sd X Y I at_ sx d i) bm i 0 (X i) (Y i) (I i) d (at_ i+1)=sgX bm sd i:=by
 rw [C6,OG,R8]
 show Aw (rPt (Sc.subP (rgN bm sd i) (Sc.mulP (sgE bm sd X Y I at_ d i) (sx i))) (sgE bm sd X Y I at_ d i) _ _ _)=Aw _
 rw [OW _ _ _ (Oh h)]
theorem OE {i:Nat} (ha:at_ i<nk i) (h:DD (sx i) (X i (at_ i)) (Y i (at_ i)) (I i (at_ i))=true):alX (sgS bm sd X Y I at_ sx d i) bm i 0 (X i) (Y i) (I i) d (nk i)=sgL bm sd X Y I at_ nk i:=by
 have e:nk i=at_ i+1+(nk i - (at_ i+1)):=om
 rw [e,Mi,My h]
 unfold sgL
 exact Fy _ λj hj=>OH om
theorem L7:∀ k,(∀ i,i<k→at_ i<nk i∧DD (sx i) (X i (at_ i)) (Y i (at_ i)) (I i (at_ i))=true)→Cv (sgS bm sd X Y I at_ sx d) bm X Y I d nk k=El bm sd X Y I at_ nk k
 | 0,_=>rfl
 | k+1,h=>by
  show Cv _ bm X Y I d nk k++alX _ bm k 0 _ _ _ d (nk k)=El bm sd X Y I at_ nk k++sgL bm sd X Y I at_ nk k
  rw [L7 k (λi hi=>h i om),OE (h k (Nat.lt_succ_self k)).1 (h k (Nat.lt_succ_self k)).2]
theorem PZ {NR:Nat} {sn:Nat→Nat} (hs:∀ i,i<NR→sn i=nk i) (h:∀ i,i<NR→at_ i<nk i∧DD (sx i) (X i (at_ i)) (Y i (at_ i)) (I i (at_ i))=true):chB (sgS bm sd X Y I at_ sx (sgD bm sd X Y I at_ nk NR)) bm X Y I (sgD bm sd X Y I at_ nk NR) NR NR sn nk=true :=
 GO U (λi hi=>Fk (hs i hi) λj _=>L8 i j) (by rw [L7 NR h]; rfl)
end
end Cu
end
section
namespace Cu
open Go.RowKit Sy
theorem DT {w:World} {g s:Nat} {t:TypeId} {cs:Array Value} {f:Nat→List Value} (hb:Blk w g t cs) (hf:cs.toList=f 0):Lst w s (pA g) 1 f:=⟨g,0,λ_=>⟨rfl,hb.lt,λj hj=>by
 obtain rfl:j=0:=om
 rw [Nat.zero_mul]
 refine CF hb ?_
 rw [List.drop_zero,hf,List.take_of_length_le (Nat.le_refl _)]⟩⟩
end Cu
end
section
namespace Cu
open Go.RowKit Sy
def slA:Value→Option Addr
 | .slice A _ _=>A
 | _=>none
def slC:Value→Nat
 | .slice _ _ c=>c
 | _=>0
section
variable {w0:Base} {br bf:Bool} {d:List UInt8} {s:Nat→Nat→Nat} {nk:Nat→Nat} {NR:Nat} {v:Value} {M:AC}
def uD (br bf:Bool) (d:List UInt8):List UInt8:=if br && bf then d else List.replicate 32 0
def uN (br bf:Bool) (N:Nat):Nat:=if br && bf then N else 0
def uE (br bf:Bool):Int:=if br then (if bf then 0 else 81) else 80
theorem Rz (h:d.length=32):(uD br bf d).length=32:=by unfold uD; split; exact h; exact List.length_replicate
theorem Rb:uN br bf NR≤NR:=by unfold uN; split; exact Nat.le_refl _; exact Nat.zero_le _
end
section
variable {sd:List UInt8} {us:List Value}
end
end Cu
end
section
namespace Cu
open Go.ChangeShapes Go.WideShapes Go.ChangeAt Go.RowKit Sy Go.Deep
theorem Ke {H:Type}:∀ {l:List (DataW H)} {d:DataW H},d∈l→Rows.uptoBulk d≤Rows.uptoBulkAll l
 | [],_,h=>by cases h
 | d'::r,d,h=>by
  simp only [Rows.uptoBulkAll]
  cases List.mem_cons.1 h with
  | inl e=>subst e; omega
  | inr h=>have:=Ke h; omega
theorem LE {α:Type} [Inhabited α] (cells:α→List Value) (ok:α→Prop) (sz:α→Nat) (s:Nat) (hs:0<s) (hc:∀ x,(cells x).length=s) (h0:ok default) (h1:sz default=0) {H:Type} {enc:TypeId×Value→H} {P:Program} {W:World} {t e:TypeId} {fuel:Nat} {cs:List Value} {x:DataW H×List MemPlace}
  (ht:P.underlying t=some (.slice e)) (hce:P.cellsOf e=s) (hel:∀ (fuel:Nat) (cs:List Value) (x:DataW H×List MemPlace),cs.length=s→DataW.trod enc P W 0 (λ_=>true) true fuel e cs=some x→∃ y,ok y∧cs=cells y∧sz y≤Rows.uptoBulk x.1)
  (hf:DataW.trod enc P W 0 (λ_=>true) true fuel t cs=some x) :
  ∃ (A:Option Addr) (m c:Nat) (T:Nat→α),cs=[.slice A m c]∧m≤c∧c≤9223372036854775807∧(∀ j,ok (T j))∧(∀ j,sz (T j)≤Rows.uptoBulk x.1)∧Lst W s A m (λj=>cells (T j))∧m≤Rows.uptoBulk x.1:=by
 rcases open_slice ht hf with ⟨hcs,hx⟩ | ⟨a,len,cap,m,n,D,Pl,hcs,_,hl,hm,hme,hx,hall⟩
 ·exact ⟨none,0,0,λ_=>default,hcs,Nat.le_refl _,by omega,λ_=>h0,λ_=>by rw [h1]; exact Nat.zero_le _,O2 λhn=>absurd hn (Nat.lt_irrefl _),Nat.zero_le _⟩
 ·simp only [if_true] at hme
  subst hme
  rw [hce] at hall
  have hb:∀ i,i<len→Rows.uptoBulk (D i)≤Rows.uptoBulk x.1:=λi hi=>by
   subst hx
   have:=Ke (l:=(List.range len).map D) (d:=D i) (List.mem_map.2 ⟨i,List.mem_range.2 hi,rfl⟩)
   simp only [Rows.uptoBulk]
   omega
  obtain ⟨X,hX0,hX⟩:=Ll (α:=α) (n:=len) (p:=λi y=>(ok y∧sz y≤Rows.uptoBulk x.1)∧W.cells? 0 (a.add (i*s)) s=some (cells y)) (λi hi=>by
   obtain ⟨cs',h1,h2⟩:=hall i om
   obtain ⟨y,hy,rfl,hz⟩:=hel _ _ _ (Lm h1) h2
   exact ⟨y,⟨hy,Nat.le_trans hz (hb i hi)⟩,h1⟩) (λy=>ok y∧sz y≤Rows.uptoBulk x.1) ⟨h0,by rw [h1]; exact Nat.zero_le _⟩ (λ_ _ hp=>hp.1)
  refine ⟨some a,len,m,X,hcs,hl,by simpa [maxLen] using hm,λj=>(hX0 j).1,λj=>(hX0 j).2,O2 λhpos=>?_,?_⟩
  ·obtain ⟨_,hc0⟩:=hX 0 hpos
   obtain ⟨v0,hv0⟩:∃ v0,(cells (X 0))[0]? = some v0:=⟨(cells (X 0))[0]'(by rw [hc]; exact hs),List.getElem?_eq_getElem _⟩
   have hcell:W.cell? a=some v0:=by
    have:=F8 hc0 0 v0 hv0
    simpa [Addr.add] using this
   obtain ⟨b,o,rfl,hlt⟩:=Ln hcell
   refine ⟨b,o,rfl,hlt,λj hj i v hi=>?_⟩
   have:=F8 (hX j hj).2 i v hi
   rwa [Kq,Kq] at this
  ·subst hx
   have:=Kg ((List.range len).map D)
   simp only [Rows.uptoBulk]
   simp only [List.length_map,List.length_range] at this
   omega
end Cu
end
section
namespace Cu
open Go.ChangeShapes Go.WideShapes Go.ChangeAt Go.RowKit Sy Go.Deep
end Cu
end
section
namespace Cu
open Go.RowKit Sy
def Ee (n:Nat):Bool:=decide (1≤n) && decide (n≤64)
theorem alw_iff {n:Nat}:Ee n=true↔1≤n∧n≤64:=by unfold Ee; rw [Bool.and_eq_true,decide_eq_true_iff,decide_eq_true_iff]
theorem F9 (w:World) (n:Nat) (hn:n≤9223372036854775807):Calls Tryz.prog 83 #[iZ n] w (Gets w (.bool (Ee n))):=by
 refine Sy.enter (args:=[iZ n]) Tryz.func83 U kL<|sC<|sP (.bool false)<|sA ?_
 obtain ⟨b1,hb1⟩:=xE (decide (n ≥ 1))
 refine sP (iZ n)<|sS (.bool b1) (qge U U U hb1)<|sP (.bool b1) ?_
 cases b1
 ·refine sN<|sN<|sP (.bool false)<|sP (.bool false) ?_
  refine sG<|Sy.ret ?_
  rw [show Ee n=false from by unfold Ee; rw [show decide (1≤n)=false from hb1.symm]; rfl]
  exact rV (.bool false) rfl
 ·obtain ⟨b2,hb2⟩:=xE (decide (n≤64))
  refine sP (iZ n)<|sS (.bool b2) (qle U U U hb2)<|sP (.bool b2)<|sP (.bool b2)<|sG<|Sy.ret ?_
  rw [show Ee n=b2 from by unfold Ee; rw [show decide (1≤n)=true from hb1.symm,hb2]; rfl]
  exact rV (.bool b2) rfl
theorem Ci (w:World) (px py:Nat) (pi:Bool) (hpx:px<K4) (hpy:py<K4):Calls Tryz.prog 84 #[pv px py pi] w (GetsN w (CT (dec px py pi))):=by
 refine Sy.enter (args:=[pv px py pi]) Tryz.func84 U kL<|sC<|sM 48 (pcs px py pi) (λg0=>?_)
 refine sP (.slice none 0 0)<|sA<|sS (pv px py pi) (qL 0 g0 0 9 48 48 (pcs px py pi) rfl Ac)<|sS (.agg ((Aw (dec px py pi)).map bv).toArray) (qF 146 #[pv px py pi] (λw=>MW w px py pi hpx hpy))<|Sy.make kR 174 (Zl 33).toArray ptr kF (λg1=>?_)
 refine Sy.write kR 1 g1 174 (Zl 33).toArray ((Aw (dec px py pi)).map bv).toArray kR (Writes.store 0 174 ((Aw (dec px py pi)).map bv).toArray _ _ U kR kR (by rw [DI (Aw (dec px py pi)) (Ap _)]; kernel_rfl) (by rw [DI (Aw (dec px py pi)) (Ap _)]; exact Nat.le_of_ble_eq_true kR) (E' _) (GM _ _ (by rw [(Ap _)]; kernel_rfl)))<|sA<|sP (.slice (pA g1) 33 33)<|sP (.slice (pA g1) 33 33)<|sG<|Sy.ret ?_
 exact I3 1 (g1,174,((Aw (dec px py pi)).map bv).toArray) rfl (v:=.slice (pA g1) 33 33) (.inl (show _=_ by kernel_rfl)) kR ⟨_,rfl,rfl⟩
def BF (ax ay:Nat) (ai:Bool) (x y:Nat) (i:Bool):Pt:=Ec.add Ae (dec ax ay ai) (Ec.neg (dec x y i))
def Fb (f:Nat→List Value) (n:Nat) (v:Value) (M:AC):Prop:=∃ g1 g2,v=.slice (pA g2) 1 1∧M=[(g1,176,(AO (upto n f (pml 0 0 false)) 64).toArray),(g2,45,#[.slice (pA g1) n n])]
theorem Nj {P:Program} {F:AK} {o:Oper} (t:TypeId) (x hx' mx':Operand) (g f hi s:Nat) (kh km:IntKind) (ho:o.op=.slice t x none (some hx') (some mx')) (hx:evF F x=pT g f) (hh:evF F hx'=.int kh (hi:Int)) (hm:evF F mx'=.int km (hi:Int)) (ht:P.underlying t=some (.array (P.arrayLen t) (P.elem t))) (hsz:∀ w,(sizeOf (P.elem t)).run P w=.ok s w) (hle:hi≤P.arrayLen t) (w:World):(execOp (evF F) o).run P w=.ok (.value (.slice (some ⟨g,f,none⟩) hi hi)) w:=by
 have e:(Instr.sliceAt t (pT g f) none (some (.int kh (hi:Int))) (some (.int km (hi:Int)))).run P w=.ok (.slice (some ⟨g,f,none⟩) hi hi) w:=by
  rw [run_sliceAt_array_hm w t ⟨g,f,none⟩ ht kh km (hi:Int) (hi:Int) om om om]
  simp [hsz,slicedAt,Result.andThen,Addr.add]
 unfold execOp
 simp only [ho,hx,hh,hm,Option.map_some,Option.map_none,e,Sem.run_bind,Sem.run_pure,Result.andThen_ok]
theorem F2 (w:World) (A:Option Addr) (n c:Nat) (X Y:Nat→Nat) (I:Nat→Bool) (hX:∀ k,X k<K4) (hY:∀ k,Y k<K4) (ax ay:Nat) (ai:Bool) (hax:ax<K4) (hay:ay<K4) (hn:n≤64) (hlk:Lst w 9 A n (λk=>pml (X k) (Y k) (I k))) :
  Calls Tryz.prog 85 #[.slice A n c,pv ax ay ai] w (GetsN w (Fb (λj=>pml (pX (BF ax ay ai (X j) (Y j) (I j))) (pY (BF ax ay ai (X j) (Y j) (I j))) (pI (BF ax ay ai (X j) (Y j) (I j)))) n)):=by
 obtain ⟨gK,oK,hT⟩:=hlk
 obtain ⟨fK,hfK⟩:∃ f:Nat→List Value,f=(λj=>pml (pX (BF ax ay ai (X j) (Y j) (I j))) (pY (BF ax ay ai (X j) (Y j) (I j))) (pI (BF ax ay ai (X j) (Y j) (I j)))):=⟨_,rfl⟩
 rw [← hfK]
 have hf9:∀ j,(fK j).length=9:=λj=>by rw [hfK]; rfl
 refine Sy.enter (args:=[.slice A n c,pv ax ay ai]) Tryz.func85 U kL<|sC<|sM 48 (pcs ax ay ai) (λg0=>?_)
 refine sP (.slice none 0 0)<|sG<|sC<|sM 176 (AO (λ_=>pml 0 0 false) 64).toArray (λg1=>?_)
 refine sG<|Sy.seq<|sC<|sP (.slice A n c)<|sP (iZ n)<|sP (.int .i64 0)<|sG<|Sy.block<|Sy.loopK n (λk1=>[(0,.slice A n c),(3,ptr g0),(5,ptr g1),(9,.slice A n c),(10,iZ n),(11,iZ k1)]) (λk1=>[(g0,48,(pcs ax ay ai)),(g1,176,(AO (upto k1 fK (pml 0 0 false)) 64).toArray)]) [true,true] (M:=[(g0,48,(pcs ax ay ai)),(g1,176,(AO (λ_=>pml 0 0 false) 64).toArray)]) ac6 kR (AL U (AL (beq Fe) rfl)) (λk1 hk1=>?_)
 refine sC ?_
 obtain ⟨b1,hb1⟩:=xE (decide (k1<n))
 refine sS (.bool b1) (qls U U U hb1)<|sG<|Sy.seq ?_
 cases b1
 ·have lb1:=dN hb1
  obtain rfl:n=k1:=om
  refine sU<|Sy.exit<|Sy.then_exit<|Sy.then_exit<|Sy.in_exit<|sB<|sP (.slice A n c)<|sP (iZ n)<|sP (iZ n)<|sA<|sP (iZ n)<|sP (iZ n)<|sS (.slice (pA g1) n n) (Quiet.pure (Nj 176 _ _ _ g1 0 n 9 .i64 .i64 U U U U Ra kF hn))<|Sy.make kR 45 #[.slice (pA g1) n n] (λg=>.slice (pA g) 1 1) (λ_=>kR) (λg2=>?_)
  refine sP (.slice (pA g2) 1 1)<|sG<|Sy.ret ?_
  exact Dz [(g1,176,(AO (upto n fK (pml 0 0 false)) 64).toArray),(g2,45,#[.slice (pA g1) n n])] rfl (v:=.slice (pA g2) 1 1) (.inl (show _=_ by kernel_rfl)) (λw hw=>St.less hw (by simp)) ⟨g1,g2,rfl,rfl⟩
 ·have lb1:=dY hb1
  refine sT<|Sy.skip<|Sy.then_<|Sy.seq<|Sy.block<|sC<|sP (iZ k1)<|sS (.pointer (some ⟨gK,oK+k1*9,none⟩)) (Quiet.pure (AJ 45 _ _ _ A gK oK n c k1 9 .i64 (hT om).1 U U U CH kF om))<|sS (pv (X k1) (Y k1) (I k1)) (Quiet.there gK (oK+k1*9) 9 48 (pml (X k1) (Y k1) (I k1)) _ _ U kR (hT om).2.1 ((hT om).2.2 k1 om) Ac U kR U _ U)<|sM 48 (pcs 0 0 false) (λg7=>?_)
  refine sP (iZ k1)<|sW 2 g7 48 (pcs 0 0 false) (pcs (X k1) (Y k1) (I k1)) (wS 0 48 (pcs (X k1) (Y k1) (I k1)) U) ?_
  obtain ⟨Q,hQ⟩:=xE (Ec.neg (dec (X k1) (Y k1) (I k1)))
  have hQo:Ec.On Q:=by rw [hQ]; exact Ec.On.neg (Cy _ _ _)
  obtain ⟨S,hS⟩:=xE ((BF ax ay ai (X k1) (Y k1) (I k1)))
  have hSe:Ec.add Ae (dec ax ay ai) (dec (pX Q) (pY Q) (pI Q))=S:=by rw [CE hQo,hQ,hS]; rfl
  refine sG<|Sy.regionD (λj=>j == 6) kR<|sZ 0 U (iZ k1)<|sD 1 U (pv ax ay ai) (qL 0 g0 0 9 48 48 (pcs ax ay ai) rfl Ac)<|sD 2 U (pv (X k1) (Y k1) (I k1)) (qL 2 g7 0 9 48 48 (pcs (X k1) (Y k1) (I k1)) U Ac) <|
   sD 3 U (pv (pX Q) (pY Q) (pI Q)) (qF 136 #[pv (X k1) (Y k1) (I k1)] (λw=>by rw [← Be,hQ]; exact MK w _ _ _ (hX _) (hY _))) <|
   sD 4 U (pv (pX S) (pY S) (pI S)) (qF 135 #[pv ax ay ai,pv (pX Q) (pY Q) (pI Q)] (λw=>by have q:=JS w ax ay ai (pX Q) (pY Q) (pI Q) hax hay (Eh _) (Eg _); rw [hSe,Be] at q; exact q)) <|
   sD 5 U (.pointer (some ⟨g1,0+k1*9,none⟩)) (Quiet.pure (Au 176 _ _ _ g1 0 _ k1 9 .i64 U U U Ra kF om)) <|
   sX 6 U 1 g1 176 (AO (upto k1 fK (pml 0 0 false)) 64).toArray (AO (upto (k1+1) fK (pml 0 0 false)) 64).toArray (Writes.store (0+k1*9) 48 (pcs (pX S) (pY S) (pI S)) _ _ U kR kR kR (FE (Ax hf9 U _) (k:=k1) om om) kR (E0 (v:=(pcs (pX S) (pY S) (pI S)).toList) hf9 U (by rw [hfK,hS]; rfl) om om)) ?_
  refine sE<|Sy.in_<|Sy.then_<|Sy.region<|sS (iZ (k1+1)) (qad U U U)<|sP (iZ (k1+1))<|Sy.nil ?_
  exact Sy.againK [true,true] (M:=[(g0,48,(pcs ax ay ai)),(g1,176,(AO (upto (k1+1) fK (pml 0 0 false)) 64).toArray)]) om ac6 kR (AL U (AL U U))
end Cu
end
end Go.Proofs.YtbjmjcpdonochaaGreatDoor
