/-
  Texts of ours, put together: RingW, RingY, ScInv, ScRefPow, RingX, RingZ, RingAA, RingAB, RingAC, RingAD, RingAE, RingAF, RingAG, RingAH, SymG2, RingAI, RingAJ, RingAK, RingAM, StrZ, RingOnlyL, SurB, SurC, SurD, PLift10, PLift11.
-/
import Derived.Test.YtbjmjcpdonochaaGreatDoorBE7
set_option linter.unusedVariables false
set_option linter.unusedSimpArgs false
set_option maxRecDepth 100000
set_option maxHeartbeats 4000000
namespace Go.Proofs.YtbjmjcpdonochaaGreatDoor
section
namespace Cu
open Go.RowKit Sy
theorem Jc (w:World) (A:Option Addr) (m:List UInt8) (n c:Nat) (hm:m.length=n) (hm9:n≤999000000) (hc:n≤c) (hc2:c≤9223372036854775807) (hs0:Sh.Src w A m) (R:Option Addr) (NR cR:Nat) (a:Nat→Option Addr) (nk ck:Nat→Nat) (X Y:Nat→Nat→Nat) (I:Nat→Nat→Bool) (hX:∀ i k,X i k<K4) (hY:∀ i k,Y i k<K4) (hNR:NR≤4611686018427387904) (hnk:∀ i,nk i≤4611686018427387904) (hlr:Lst w 1 R NR (λi=>[.slice (a i) (nk i) (ck i)])) (hlk:∀ i,i<NR→Lst w 9 (a i) (nk i) (λk=>pml (X i k) (Y i k) (I i k))) (d:List UInt8) (hd:d.length=32) (W:Option Addr) (NW cW:Nat) (sa:Nat→Option Addr) (sn sc:Nat→Nat) (s:Nat→Nat→Nat) (hsc:∀ i k,s i k<K4) (hNW:NW≤4611686018427387904) (hsn9:∀ i,i<NW→sn i≤4611686018427387904) (hlw:Lst w 1 W NW (λi=>[.slice (sa i) (sn i) (sc i)])) (hls:∀ i,i<NW→Lst w 4 (sa i) (sn i) (λk=>fws (s i k))) (htr:Sh.TabAt w 0):Calls Tryz.prog 80 #[.slice A n c,.slice R NR cR,AX d W NW cW] w (Gets w (.bool (vfB m NR nk X Y I s d NW sn))):=by
 have hlr0:=hlr
 obtain ⟨gR,oR,hR⟩:=hlr
 obtain ⟨gW,oW,hW⟩:=hlw
 refine Sy.enter (args:=[.slice A n c,.slice R NR cR,AX d W NW cW]) Tryz.func80 U kL<|sC<|sM 31 (AM d W NW cW).toArray (λg0=>?_)
 refine sP (.bool false)<|sA<|sP (.slice R NR cR) ?_
 obtain ⟨b1,hb1⟩:=xE (CJ NR nk X Y I)
 refine sS (.bool b1) (qG 129 #[.slice R NR cR] (λw hw=>by rw [hb1]; exact Oy w R NR cR a nk ck X Y I hX hY hNR hnk (hlr0.below hw.below) (λi hi=>(hlk i hi).below hw.below)))<|sP (.bool b1)<|sG<|Sy.seq<|sC<|sP (.bool b1) ?_
 cases b1
 ·refine sP (.bool true)<|sP (.bool true) ?_
  refine sN<|sN<|sN<|sN<|sN<|sN<|sP (.bool true)<|sG<|sT<|sC<|sP (.bool false)<|sG<|Sy.ret<|Sy.then_ret ?_
  rw [show (.bool (vfB m NR nk X Y I s d NW sn):Value)=.bool false from by unfold vfB; rw [← hb1]; rfl]
  exact rV (.bool false) rfl
 ·obtain ⟨hN32,hn64,hn1,hN1⟩:=Fl hb1
  refine sP (.bool false)<|sP (.bool false)<|sP (pT g0 32)<|sS (.slice W NW cW) (Quiet.cell 0 g0 32 31 29 (AM d W NW cW).toArray _ _ U kR kR B4 U _ (Dd hd))<|sP (iZ NW)<|sP (.slice R NR cR)<|sP (iZ NR) ?_
  obtain ⟨b2,hb2⟩:=xE (decide (NW≠NR))
  refine sS (.bool b2) (qne U U U hb2)<|sP (.bool b2)<|sG ?_
  cases b2
  ·have lb2:=dN hb2
   obtain rfl:NR=NW:=om
   refine sU<|Sy.skip<|sB<|sP (.slice A n c)<|sP (.slice R NR cR) ?_
   obtain ⟨bM,hbM⟩:=xE (rgM m NR nk X Y I)
   have hbl:bM.length=32:=by rw [hbM]; exact E4 _ _ _ _ _ _
   refine Sy.callN kR 14 #[.slice A n c,.slice R NR cR] kF ((λvq Mq=>∃ (g:Nat) (sp:List Value) (cap:Nat),vq=.slice (pA g) 32 cap∧(32≤cap∧cap≤9223372036854775807)∧Mq=[(g,5,(bM.map bv++sp).toArray)])) (λw hw=>by rw [hbM]; exact Sa w A m n c hm hm9 hc hc2 (hs0.below hw.below) R NR cR a nk ck X Y I hX hY hNR hnk (hlr0.below hw.below) (λi hi=>(hlk i hi).below hw.below) hN32 hn64 (htr.below hw.below htr.lt)) (λvq Mq hR0=>?_)
   obtain ⟨qx,spx,cpx,rfl,hcx,rfl⟩:=hR0
   refine sP (.slice (pA qx) 32 cpx)<|sA<|sP (.slice (pA qx) 32 cpx)<|Sy.make kR 24 #[.slice (pA qx) 32 cpx] (λg=>.slice (pA g) 1 1) kF (λg1=>?_)
   refine sP (.slice (pA g1) 1 1)<|sG<|Sy.seq<|sC<|sP (.int .i64 0)<|sG<|Sy.block<|Sy.loopH NR (λk1=>∀ i,i<k1→DA s sn nk i=true) (λk1=>[(1,.slice R NR cR),(5,pT g0 0),(8,.slice (pA qx) 32 cpx),(9,.slice (pA g1) 1 1),(10,iZ k1)]) (λk1=>[(g0,31,(AM d W NR cW).toArray),(qx,5,(bM.map bv++spx).toArray),(g1,24,#[.slice (pA qx) 32 cpx])]) [true,true,true] (M:=[(g0,31,(AM d W NR cW).toArray),(qx,5,(bM.map bv++spx).toArray),(g1,24,#[.slice (pA qx) 32 cpx])]) (λj hj=>absurd hj (Nat.not_lt_zero _)) ac5 kR (AL U (AL U (AL U U))) (λk1 hk1 hh=>?_)
   have hh1:=hh
   refine Sy.seq<|sC<|sP (iZ k1)<|sP (.slice R NR cR)<|sP (iZ NR) ?_
   obtain ⟨b3,hb3⟩:=xE (decide (k1<NR))
   refine sS (.bool b3) (qls U U U hb3)<|sG ?_
   cases b3
   ·have lb3:=dN hb3
    refine sU<|Sy.exit<|Sy.then_exit<|Sy.then_exit ?_
    obtain rfl:NR=k1:=om
    have hrow:=hh1
    refine Sy.in_exit<|Sy.then_<|Sy.seq<|sC<|sP (.int .i64 0)<|sG<|Sy.block<|Sy.loopT (Y:=Slc×AC×List Sh.Tx) NR (λk1 y1=>[(1,.slice R NR cR),(5,pT g0 0),(8,.slice (pA qx) 32 cpx),(9,y1.1.v),(12,iZ k1)]) (λk1 y1=>[(g0,31,(AM d W NR cW).toArray)]++(y1.1.bl++(y1.2.1++([])))) (λk1 y1=>TxsIs (Base.of w) 24 y1.1 y1.2.1 y1.2.2∧Sh.cat y1.2.2=bM++Cv s bM X Y I d nk k1∧y1.2.2.length=k1+1∧(qx,5,(bM.map bv++spx).toArray)∈y1.2.1) (⟨.slice (pA g1) 1 1,[(g1,24,#[.slice (pA qx) 32 cpx])]⟩,[(qx,5,(bM.map bv++spx).toArray)],[(⟨some ⟨qx,0,none⟩,bM,cpx⟩:Sh.Tx)]) ⟨TxsIs.own _ (Ly hbl) (λv L hv hb=>Qd (hv.blk _ _ _ (hb _ (List.mem_singleton.2 U))).2 hbl hcx),by simp [Sh.cat,Cv],rfl,List.mem_singleton.2 U⟩ ac5 (λw hw=>hw.perm (I9 (m:=[(g0,31,(AM d W NR cW).toArray),(g1,24,#[.slice (pA qx) 32 cpx]),(qx,5,(bM.map bv++spx).toArray)]) [0,2,1] kR (by rfl))) (λk1 y1 hk1 hh1=>?_)
    have hmT:=hh1.2.2.2
    refine Sy.seq<|sC<|sP (iZ k1)<|sP (.slice R NR cR)<|sP (iZ NR) ?_
    obtain ⟨b4,hb4⟩:=xE (decide (k1<NR))
    refine sS (.bool b4) (qls U U U hb4)<|sG ?_
    cases b4
    ·have lb4:=dN hb4
     refine sU<|Sy.exit<|Sy.then_exit<|Sy.then_exit ?_
     obtain rfl:NR=k1:=om
     refine Sy.in_exit<|sR (λj=>false) ?_
     refine sZ 0 U (y1.1.v) ?_
     obtain ⟨d0,hd0⟩:=xE (rgT bM (Cv s bM X Y I d nk NR))
     have hdl:d0.length=32:=by rw [hd0]; exact GH _ _
     refine sD 1 U (.agg (d0.map bv).toArray) (qG 44 #[.string rgFirst,y1.1.v] (λw hw=>by obtain ⟨Q,dd,hv,hc9,_,htx⟩:=hh1.1.texts; rw [hv,hd0]; have hel:=Ft (s:=s) (bm:=bM) (X:=X) (Y:=Y) (I:=I) (nk:=nk) hd NR; have hcat:=hh1.2.1; have q:=Sh.taggedR_any w rgFirst Q y1.2.2 dd (htx hw (λb hb=>(List.mem_append.2 (.inr (List.mem_append.2 (.inl hb))))) (λb hb=>(List.mem_append.2 (.inr (List.mem_append.2 (.inr (List.mem_append.2 (.inl hb)))))))) (htr.below hw.below htr.lt) dZ (by rw [hcat,List.length_append]; omega) (by omega); rw [hcat] at q; exact q))<|sZ 2 U (pT g0 0)<|sD 3 U (.agg (d.map bv).toArray) (Quiet.load 0 g0 0 32 31 23 (AM d W NR cW).toArray _ _ U kR kR D6 U kR _ (Gg hd) (Iw hd)) ?_
     obtain ⟨b5,hb5⟩:=xE (decide (d0=d))
     refine sD 4 U (.bool b5) (Quiet.pure (λw=>by rw [hb5]; exact Lg w _ _ _ _ d0 d hdl hd U U U))<|sZ 5 U (.bool b5)<|sI<|Sy.ret ?_
     rw [show (.bool (vfB m NR nk X Y I s d NR sn):Value)=.bool b5 from by unfold vfB; rw [← hb1, ← hbM]; by_cases hq:d0=d; { rw [GO U hrow (by rw [← hd0]; exact hq),hb5,decide_eq_true hq]; rfl }; { rw [Mc (by rw [← hd0]; exact hq),hb5,decide_eq_false hq]; rfl }]
     exact rV (.bool b5) rfl
    ·have lb4:=dY hb4
     have hnk1:=hn64 k1 lb4
     have hnk0:=hn1 k1 lb4
     obtain ⟨gK,oK,hT⟩:=hlk k1 lb4
     obtain ⟨gS,oS,hS⟩:=hls k1 lb4
     have hsn8:=hsn9 k1 lb4
     have hsn:=(rowOk_iff.1 (hrow k1 lb4)).1
     refine sT<|Sy.skip<|Sy.then_<|Sy.seq<|Sy.block<|Sy.seq<|Sy.regionD (λj=>false) kR<|sZ 0 U (.slice (pA qx) 32 cpx)<|sZ 1 U (iZ k1)<|sZ 2 U (.slice R NR cR)<|sZ 3 U (iZ k1)<|sD 4 U (.pointer (some ⟨gR,oR+k1*1,none⟩)) (Quiet.pure (AJ 25 _ _ _ R gR oR NR cR k1 1 .i64 (hR om).1 U U U CY kF om))<|sD 5 U (.slice (a k1) (nk k1) (ck k1)) (Quiet.thereOne gR (oR+k1*1) 45 _ _ U kR (hR om).2.1 _ (AR ((hR om).2.2 k1 om) 0 U) CH U)<|sZ 6 U (pT g0 0)<|sD 7 U (.agg (d.map bv).toArray) (Quiet.load 0 g0 0 32 31 23 (AM d W NR cW).toArray _ _ U kR kR D6 U kR _ (Gg hd) (Iw hd))<|sZ 8 U (pT g0 32)<|sD 9 U (.slice W NR cW) (Quiet.cell 0 g0 32 31 29 (AM d W NR cW).toArray _ _ U kR kR B4 U _ (Dd hd))<|sZ 10 U (iZ k1)<|sD 11 U (.pointer (some ⟨gW,oW+k1*1,none⟩)) (Quiet.pure (AJ 29 _ _ _ W gW oW NR cW k1 1 .i64 (hW om).1 U U U B4 kF om))<|sD 12 U (.slice (sa k1) (sn k1) (sc k1)) (Quiet.thereOne gW (oW+k1*1) 51 _ _ U kR (hW om).2.1 _ (AR ((hW om).2.2 k1 om) 0 U) B3 U)<|sZ 13 U (.slice R NR cR)<|sZ 14 U (iZ k1)<|sD 15 U (.pointer (some ⟨gR,oR+k1*1,none⟩)) (Quiet.pure (AJ 25 _ _ _ R gR oR NR cR k1 1 .i64 (hR om).1 U U U CY kF om))<|sD 16 U (.slice (a k1) (nk k1) (ck k1)) (Quiet.thereOne gR (oR+k1*1) 45 _ _ U kR (hR om).2.1 _ (AR ((hR om).2.2 k1 om) 0 U) CH U)<|sZ 17 U (iZ ((nk k1)))<|Sy.callND 18 U kR kR 17 #[.slice (pA qx) 32 cpx,iZ k1,.slice (a k1) (nk k1) (ck k1),.agg (d.map bv).toArray,.slice (sa k1) (sn k1) (sc k1),iZ ((nk k1))] kF (EsR (s k1) bM k1 (X k1) (Y k1) (I k1) d (nk k1)) (λw hw=>RD w (pA qx) bM cpx hbl hcx.1 hcx.2 (EK (hw.blk _ _ _ (List.mem_append.2 (.inr (List.mem_append.2 (.inr (List.mem_append.2 (.inl hmT))))))).2) k1 om (a k1) (nk k1) (ck k1) (X k1) (Y k1) (I k1) (hX k1) (hY k1) ((hlk k1 om).below hw.below) d hd (sa k1) (sn k1) (sc k1) (s k1) (hsc k1) ((hls k1 om).below hw.below) (nk k1) om om om (htr.below hw.below htr.lt)) (λvq Mq hR0=>?_)
     obtain ⟨ye,xte,xe,rfl,rfl,hye,hxe⟩:=hR0
     refine Sy.permD Sy.end_front2<|Sy.permD (M:=[(g0,31,(AM d W NR cW).toArray)]++(ye.bl++(xe++(y1.1.bl++(y1.2.1++([])))))) (by exact List.Perm.refl _)<|sZ 19 U (.tuple #[ye.v,.slice xte.A (B2 (nk k1)) xte.c])<|sZ 20 U (ye.v)<|sZ 21 U (.slice xte.A (B2 (nk k1)) xte.c)<|sZ 22 U (ye.v)<|sZ 23 U (.slice xte.A (B2 (nk k1)) xte.c)<|sI<|Sy.region<|sP (y1.1.v)<|sP (.slice xte.A (B2 (nk k1)) xte.c)<|Sy.make kR 24 #[.slice xte.A (B2 (nk k1)) xte.c] (λg=>.slice (pA g) 1 1) kF (λg2=>?_)
     refine Sy.movT<|Sy.permS (M:=[(g0,31,(AM d W NR cW).toArray),(g2,24,#[.slice xte.A (B2 (nk k1)) xte.c])]++(y1.1.bl++(ye.bl++(xe++(y1.2.1++([])))))) (Sy.flat_perm (ls:=[[(g0,31,(AM d W NR cW).toArray),(g2,24,#[.slice xte.A (B2 (nk k1)) xte.c])],ye.bl,xe,y1.1.bl,y1.2.1]) (ms:=[[(g0,31,(AM d W NR cW).toArray),(g2,24,#[.slice xte.A (B2 (nk k1)) xte.c])],y1.1.bl,ye.bl,xe,y1.2.1]) [0,3,1,2,4] kR (by rfl) (by rfl) (by rfl))<|Sy.appendR kR 88 24 _ _ 1 24 Fd Dt U U U U dZ _ _ U hh1.1.row kR [.slice xte.A (B2 (nk k1)) xte.c] rfl (Er _ _ _) 1 g2 24 kR kR (by rw [List.length_map,hh1.2.2.1]; omega) (by rw [List.length_map,hh1.2.2.1]; simp only [maxLen]; omega) (λr1 hr1=>?_)
     refine sP (r1.v)<|Sy.nil<|Sy.in_<|Sy.then_<|Sy.region<|sP (iZ k1)<|sS (iZ (k1+1)) (qad U U U)<|sP (iZ (k1+1))<|Sy.nil ?_
     exact Sy.againT ((r1,y1.2.1++xe,y1.2.2++[xte])) om (⟨hh1.1.add xte xe hr1 hxe.val hxe.ok,by rw [FK,hh1.2.1,List.append_assoc,hxe.li]; rfl,by rw [List.length_append,hh1.2.2.1]; rfl,List.mem_append.2 (.inl hmT)⟩) ac5 (λw hw=>by simpa only [List.append_assoc] using (St.parts (ls:=[[(g0,31,(AM d W NR cW).toArray)],[(g2,24,#[.slice xte.A (B2 (nk k1)) xte.c])],r1.bl,ye.bl,xe,y1.2.1]) (ms:=[[(g0,31,(AM d W NR cW).toArray)],r1.bl,y1.2.1,xe]) [[(g2,24,#[.slice xte.A (B2 (nk k1)) xte.c])],ye.bl] [0,2,5,4,1,3] kR (by rfl) (by rfl) (by rfl) hw))
   ·have lb3:=dY hb3
    have hnk1:=hn64 k1 lb3
    have hnk0:=hn1 k1 lb3
    obtain ⟨gK,oK,hT⟩:=hlk k1 lb3
    obtain ⟨gS,oS,hS⟩:=hls k1 lb3
    have hsn8:=hsn9 k1 lb3
    refine sT<|Sy.skip<|Sy.then_<|Sy.seq<|Sy.block<|Sy.seq<|Sy.seq<|Sy.regionD (λj=>false) kR<|sZ 0 U (pT g0 32)<|sD 1 U (.slice W NR cW) (Quiet.cell 0 g0 32 31 29 (AM d W NR cW).toArray _ _ U kR kR B4 U _ (Dd hd))<|sZ 2 U (iZ k1)<|sD 3 U (.pointer (some ⟨gW,oW+k1*1,none⟩)) (Quiet.pure (AJ 29 _ _ _ W gW oW NR cW k1 1 .i64 (hW om).1 U U U B4 kF om))<|sD 4 U (.slice (sa k1) (sn k1) (sc k1)) (Quiet.thereOne gW (oW+k1*1) 51 _ _ U kR (hW om).2.1 _ (AR ((hW om).2.2 k1 om) 0 U) B3 U)<|sZ 5 U (iZ ((sn k1)))<|sZ 6 U (.slice R NR cR)<|sZ 7 U (iZ k1)<|sD 8 U (.pointer (some ⟨gR,oR+k1*1,none⟩)) (Quiet.pure (AJ 25 _ _ _ R gR oR NR cR k1 1 .i64 (hR om).1 U U U CY kF om))<|sD 9 U (.slice (a k1) (nk k1) (ck k1)) (Quiet.thereOne gR (oR+k1*1) 45 _ _ U kR (hR om).2.1 _ (AR ((hR om).2.2 k1 om) 0 U) CH U)<|sZ 10 U (iZ ((nk k1))) ?_
    obtain ⟨b6,hb6⟩:=xE (decide ((sn k1)≠(nk k1)))
    refine sD 11 U (.bool b6) (qne U U U hb6)<|sI ?_
    cases b6
    ·have lb6:=dN hb6
     have hsn:sn k1=nk k1:=om
     refine sU<|Sy.skip<|sB<|sP (.int .i64 0)<|sG<|Sy.block<|Sy.loopH (sn k1) (λk2=>∀ j,j<k2→s k1 j%Sc.pM=s k1 j) (λk2=>[(1,.slice R NR cR),(5,pT g0 0),(8,.slice (pA qx) 32 cpx),(9,.slice (pA g1) 1 1),(10,iZ k1),(11,iZ k2)]) (λk2=>[(g0,31,(AM d W NR cW).toArray),(qx,5,(bM.map bv++spx).toArray),(g1,24,#[.slice (pA qx) 32 cpx])]) [true,true,true] (M:=[(g0,31,(AM d W NR cW).toArray),(qx,5,(bM.map bv++spx).toArray),(g1,24,#[.slice (pA qx) 32 cpx])]) (λi hi=>absurd hi (Nat.not_lt_zero _)) ac6 kR (AL U (AL U (AL U U))) (λk2 hk2 hh=>?_)
     have hh2:=hh
     refine Sy.seq<|sC<|sP (iZ k2)<|sP (pT g0 32)<|sS (.slice W NR cW) (Quiet.cell 0 g0 32 31 29 (AM d W NR cW).toArray _ _ U kR kR B4 U _ (Dd hd))<|sP (iZ k1)<|sS (.pointer (some ⟨gW,oW+k1*1,none⟩)) (Quiet.pure (AJ 29 _ _ _ W gW oW NR cW k1 1 .i64 (hW om).1 U U U B4 kF om))<|sS (.slice (sa k1) (sn k1) (sc k1)) (Quiet.thereOne gW (oW+k1*1) 51 _ _ U kR (hW om).2.1 _ (AR ((hW om).2.2 k1 om) 0 U) B3 U)<|sP (iZ ((sn k1))) ?_
     obtain ⟨b7,hb7⟩:=xE (decide (k2<(sn k1)))
     refine sS (.bool b7) (qls U U U hb7)<|sG ?_
     cases b7
     ·have lb7:=dN hb7
      refine sU<|Sy.exit<|Sy.then_exit<|Sy.then_exit ?_
      obtain rfl:sn k1=k2:=om
      refine Sy.in_exit<|Sy.in_<|Sy.then_<|Sy.region<|sP (iZ k1)<|sS (iZ (k1+1)) (qad U U U)<|sP (iZ (k1+1))<|Sy.nil ?_
      exact Sy.againH [true,true,true] (M:=[(g0,31,(AM d W NR cW).toArray),(qx,5,(bM.map bv++spx).toArray),(g1,24,#[.slice (pA qx) 32 cpx])]) om (λi hi=>(Nat.lt_succ_iff_lt_or_eq.1 hi).elim (hh1 i) (λh=>by subst h; exact Fk hsn (λj hj=>hh2 j om))) ac5 kR (AL U (AL U (AL U U)))
     ·have lb7:=dY hb7
      refine sT<|Sy.skip<|Sy.then_<|Sy.seq<|Sy.block<|Sy.seq<|Sy.regionD (λj=>false) kR<|sZ 0 U (pT g0 32)<|sD 1 U (.slice W NR cW) (Quiet.cell 0 g0 32 31 29 (AM d W NR cW).toArray _ _ U kR kR B4 U _ (Dd hd))<|sZ 2 U (iZ k1)<|sD 3 U (.pointer (some ⟨gW,oW+k1*1,none⟩)) (Quiet.pure (AJ 29 _ _ _ W gW oW NR cW k1 1 .i64 (hW om).1 U U U B4 kF om))<|sD 4 U (.slice (sa k1) (sn k1) (sc k1)) (Quiet.thereOne gW (oW+k1*1) 51 _ _ U kR (hW om).2.1 _ (AR ((hW om).2.2 k1 om) 0 U) B3 U)<|sZ 5 U (iZ k2)<|sD 6 U (.pointer (some ⟨gS,oS+k2*4,none⟩)) (Quiet.pure (AJ 51 _ _ _ (sa k1) gS oS (sn k1) (sc k1) k2 4 .i64 (hS om).1 U U U B3 kF om))<|sD 7 U (fv (s k1 k2)) (Quiet.there gS (oS+k2*4) 4 42 (fws (s k1 k2)) _ _ U kR (hS om).2.1 ((hS om).2.2 k2 om) Ak U kR U _ U)<|sD 8 U (fv (s k1 k2%Sc.pM)) (qF 19 #[fv (s k1 k2)] (λw=>MI w (s k1 k2) (hsc k1 k2)))<|sZ 9 U (pT g0 32)<|sD 10 U (.slice W NR cW) (Quiet.cell 0 g0 32 31 29 (AM d W NR cW).toArray _ _ U kR kR B4 U _ (Dd hd))<|sZ 11 U (iZ k1)<|sD 12 U (.pointer (some ⟨gW,oW+k1*1,none⟩)) (Quiet.pure (AJ 29 _ _ _ W gW oW NR cW k1 1 .i64 (hW om).1 U U U B4 kF om))<|sD 13 U (.slice (sa k1) (sn k1) (sc k1)) (Quiet.thereOne gW (oW+k1*1) 51 _ _ U kR (hW om).2.1 _ (AR ((hW om).2.2 k1 om) 0 U) B3 U)<|sZ 14 U (iZ k2)<|sD 15 U (.pointer (some ⟨gS,oS+k2*4,none⟩)) (Quiet.pure (AJ 51 _ _ _ (sa k1) gS oS (sn k1) (sc k1) k2 4 .i64 (hS om).1 U U U B3 kF om))<|sD 16 U (fv (s k1 k2)) (Quiet.there gS (oS+k2*4) 4 42 (fws (s k1 k2)) _ _ U kR (hS om).2.1 ((hS om).2.2 k2 om) Ak U kR U _ U) ?_
      obtain ⟨b8,hb8⟩:=xE (decide ((s k1 k2%Sc.pM)≠(s k1 k2)))
      refine sD 17 U (.bool b8) (Quiet.pure (λw=>by rw [hb8,decide_not]; exact Ol w _ _ _ _ _ _ U U U (Sc.mod_lt _) (hsc _ _)))<|sI ?_
      cases b8
      ·have lb8:=dN hb8
       have hnorm:s k1 k2%Sc.pM=s k1 k2:=Decidable.of_not_not lb8
       refine sU<|Sy.skip<|Sy.in_<|Sy.then_<|Sy.region<|sP (iZ k2)<|sS (iZ (k2+1)) (qad U U U)<|sP (iZ (k2+1))<|Sy.nil ?_
       exact Sy.againH [true,true,true] (M:=[(g0,31,(AM d W NR cW).toArray),(qx,5,(bM.map bv++spx).toArray),(g1,24,#[.slice (pA qx) 32 cpx])]) om (λj hj=>(Nat.lt_succ_iff_lt_or_eq.1 hj).elim (hh2 j) (λh=>by subst h; exact hnorm)) ac6 kR (AL U (AL U (AL U U)))
      ·have lb8:=dY hb8
       refine sT<|sC<|sP (.bool false)<|sG<|Sy.ret<|Sy.in_ret<|Sy.then_ret<|Sy.then_ret<|Sy.in_ret<|Sy.in_ret<|Sy.then_ret<|Sy.then_ret<|Sy.in_ret<|Sy.then_ret ?_
       rw [show (.bool (vfB m NR nk X Y I s d NR sn):Value)=.bool false from by unfold vfB; rw [← hb1,GP (k:=k1) (by assumption) (IE (j:=k2) (by assumption) lb8)]; rfl]
       exact rV (.bool false) rfl
    ·have lb6:=dY hb6
     refine sT<|sC<|sP (.bool false)<|sG<|Sy.ret<|Sy.then_ret<|Sy.in_ret<|Sy.then_ret<|Sy.then_ret<|Sy.in_ret<|Sy.then_ret ?_
     rw [show (.bool (vfB m NR nk X Y I s d NR sn):Value)=.bool false from by unfold vfB; rw [← hb1,GP (k:=k1) (by assumption) (IF lb6)]; rfl]
     exact rV (.bool false) rfl
  ·have lb2:=dY hb2
   refine sT<|sC<|sP (.bool false)<|sG<|Sy.ret<|Sy.then_ret ?_
   rw [show (.bool (vfB m NR nk X Y I s d NW sn):Value)=.bool false from by unfold vfB; rw [← hb1,Mb lb2]; rfl]
   exact rV (.bool false) rfl
end Cu
end
section
namespace Cu
open Go.RowKit Sy
section
variable {At Bt:Nat→Int} {sx sy:Nat→Nat} {NS NT:Nat}
end
end Cu
end
section
namespace Sc
open Go.RowKit Go.Lib
end Sc
end
section
namespace Sc
open Go.RowKit Go.Lib
end Sc
end
section
namespace Cu
open Go.RowKit Sy
end Cu
end
section
namespace Cu
open Go.RowKit Sy
section
variable (bm sd:List UInt8) (i:Nat) (s:Nat→Nat)
end
section
variable {bm sd:List UInt8} {i n a:Nat} {s e:Nat→Nat} {X Y:Nat→Nat} {I:Nat→Bool}
end
end Cu
end
section
namespace Cu
open Go.RowKit Sy
section
variable (bm sd:List UInt8) (nk:Nat→Nat) (s e:Nat→Nat→Nat) (X Y:Nat→Nat→Nat) (I:Nat→Nat→Bool)
end
section
variable {bm sd:List UInt8} {nk:Nat→Nat} {s e:Nat→Nat→Nat} {X Y:Nat→Nat→Nat} {I:Nat→Nat→Bool} {NR:Nat}
end
end Cu
end
section
namespace Cu
open Go.RowKit Sy
end Cu
end
section
namespace Cu
open Go.RowKit Sy
section
variable {bm sd:List UInt8} {i n k p:Nat} {s:Nat→Nat}
end
end Cu
end
section
namespace Cu
open Go.RowKit Sy
def DN (s:Nat→Nat):Nat→List UInt8
 | 0=>[]
 | k+1=>DN s k++AY (s k%Sc.pM)
def Ef (s:Nat→Nat→Nat) (sn:Nat→Nat):Nat→List UInt8
 | 0=>[]
 | k+1=>Ef s sn k++DN (s k) (sn k)
theorem D8 (s:Nat→Nat):∀ k,(DN s k).length=32*k
 | 0=>rfl
 | k+1=>by
  show (DN s k++AY _).length=_
  rw [List.length_append,D8 s k,AQ]
  omega
end Cu
end
section
namespace Cu
open Go.RowKit Sy
theorem Lh (w:World) (gA oA:Nat) (m:List UInt8) (n c:Nat) (hm:m.length=n) (hm9:n≤999000000) (hc:n≤c) (hc2:c≤9223372036854775807) (hs0:Sh.Src w (some ⟨gA,oA,none⟩) m):Calls Tryz.prog 147 #[.slice (some ⟨gA,oA,none⟩) n c] w (GetsN w ((λvq Mq=>∃ y:Slc,vq=y.v∧Mq=y.bl∧y.Is 5 1 (Aq m)))):=by
 refine Sy.enter (args:=[.slice (some ⟨gA,oA,none⟩) n c]) Tryz.func147 U kL<|sC<|sP (.slice none 0 0)<|sG<|Sy.seq<|sC<|sP (.slice (some ⟨gA,oA,none⟩) n c)<|sP (.bool false)<|sG<|sU<|Sy.skip<|sB<|Sy.make kR 5 #[] (λg=>.slice (pA g) 0 0) kF (λg0=>?_)
 refine sP (.slice (some ⟨gA,oA,none⟩) n c)<|Sy.permS (M:=[]++((⟨.slice (pA g0) 0 0,[(g0,5,#[])]⟩:Slc).bl++[])) (by exact List.Perm.refl _)<|Sy.appendM kR 24 5 _ _ 1 1 CI EU U U U U dZ _ _ U (ys:=Aq m) FM kR (CQ _) (B7 _) (some ⟨gA,oA,none⟩) n c (by rw [A6]; exact hm) hc kR (λ_=>From.src hs0) (by simp [Aq]; omega) (by simp [Aq,maxLen]; omega) (λr1 hr1=>?_)
 refine sP (r1.v)<|sG<|Sy.ret ?_
 exact Dz r1.bl U (v:=r1.v) (.inl (show _=_ by kernel_rfl)) (λw hw=>by simpa using hw) ⟨r1,rfl,rfl,by have q:=hr1; simpa [Aq] using q⟩
theorem NX (w:World) (q:Nat) (hq:q≤2000000):Calls Tryz.prog 206 #[.slice none 0 0,iZ q] w (GetsN w (Cf 42 4 [])):=by
 refine Sy.enter (args:=[.slice none 0 0,iZ q]) Tryz.func206 U kL<|sC<|sP (.slice none 0 0)<|sG<|Sy.seq<|sC<|sP (iZ q) ?_
 obtain ⟨b1,hb1⟩:=xE (decide (q<0))
 refine sS (.bool b1) (qls U U U hb1)<|sG ?_
 cases b1
 ·have lb1:=dN hb1
  refine sU<|Sy.skip<|Sy.then_<|Sy.seq<|sC<|sP (iZ q)<|sP (.slice none 0 0)<|sP (.int .i64 0)<|sP (.slice none 0 0)<|sP (.int .i64 0)<|sP (.int .i64 0)<|sS (iZ q) (qsb U U U)<|sP (iZ q)<|sA<|sP (iZ q) ?_
  obtain ⟨b2,hb2⟩:=xE (decide (q>0))
  refine sS (.bool b2) (qgt U U U hb2)<|sG ?_
  cases b2
  ·have lb2:=dN hb2
   refine sU<|Sy.skip<|sB<|sP (.slice none 0 0)<|sP (.slice none 0 0)<|sG<|Sy.ret ?_
   exact Dz [] rfl (v:=.slice none 0 0) (.inl (show _=_ by kernel_rfl)) (λ_ hw=>hw) ⟨nilS,Slc.Is.nil _ _,rfl,rfl⟩
  ·have lb2:=dY hb2
   refine sT<|Sy.region<|sP (.slice none 0 0)<|sP (.slice none 0 0)<|sP (.int .i64 0)<|sP (.slice none 0 0)<|sP (iZ q)<|Sy.appendZ kR 51 3 42 _ _ 4 32 B3 uy3 Du U U U U dZ _ _ U U q om U om (by simp only [maxLen]; omega) (λgz cz zs hz1 hz2 hz3=>?_)
   refine sP (.slice none 0 0)<|sP (.int .i64 0)<|sS (.slice (pA gz) 0 cz) (Quiet.pure (EY 51 _ _ gz 0 q cz 0 4 .i64 U U U B3 kF (Nat.zero_le _)))<|sP (.slice (pA gz) 0 cz)<|sA<|sP (.slice (pA gz) 0 cz)<|sP (.slice (pA gz) 0 cz)<|sG<|Sy.ret ?_
   exact Dz [(gz,42,zs.toArray)] rfl (v:=.slice (pA gz) 0 cz) (.inl (show _=_ by kernel_rfl)) (λ_ hw=>hw) ⟨⟨.slice (pA gz) 0 cz,[(gz,42,zs.toArray)]⟩,Slc.Is.mk' (by simp) (by simp) rfl (by simp) hz1 (Nat.zero_le _) hz3,rfl,rfl⟩
 ·have lb1:=dY hb1
  exact absurd lb1 om
theorem KW (w:World) (T:Option Addr) (N d:Nat) (a:Nat→Option Addr) (n c:Nat→Nat) (f:Nat→Nat→List Value) (hf1:∀ i k,(f i k).length=4) (hf2:∀ i k, ∀ u∈f i k,u.oneCell'=true) (hN:N≤2000000) (hs:A4 n N≤2000000) (hnc:∀ i,i<N→n i≤c i) (hlt:Lst w 1 T N (λi=>[.slice (a i) (n i) (c i)])) (hl:∀ i,i<N→Lst w 4 (a i) (n i) (f i)):Calls Tryz.prog 148 #[.slice T N d] w (GetsN w (Cf 42 4 (Hk n f N))):=by
 obtain ⟨gT,oT,hT⟩:=hlt
 refine Sy.enter (args:=[.slice T N d]) Tryz.func148 U kL<|sC<|sP (.slice none 0 0)<|sA<|sP (.int .i64 0)<|sG<|Sy.seq<|sC<|sP (.slice T N d)<|sP (iZ N)<|sP (.int .i64 0)<|sG<|Sy.block<|Sy.loopK N (λk1=>[(0,.slice T N d),(3,iZ ((A4 n k1))),(9,.slice T N d),(10,iZ N),(11,iZ k1)]) (λk1=>[]) [] (M:=[]) ac5 kR U (λk1 hk1=>?_)
 refine sC ?_
 obtain ⟨b1,hb1⟩:=xE (decide (k1<N))
 refine sS (.bool b1) (qls U U U hb1)<|sG<|Sy.seq ?_
 cases b1
 ·have lb1:=dN hb1
  refine sU<|Sy.exit<|Sy.then_exit<|Sy.then_exit ?_
  obtain rfl:N=k1:=om
  refine Sy.in_exit<|sB<|sP (iZ ((A4 n N)))<|Sy.callN kR 206 #[.slice none 0 0,iZ ((A4 n N))] kF (Cf 42 4 []) (λw hw=>NX w _ om) (λvq Mq hR0=>?_)
  obtain ⟨y0,hy0,rfl,rfl⟩:=hR0
  refine sP (y0.v)<|sG<|Sy.seq<|sC<|sP (.slice T N d)<|sP (iZ N)<|sP (.int .i64 0)<|sG<|Sy.block<|Sy.loopT (Y:=Slc) N (λk1 y1=>[(0,.slice T N d),(6,y1.v),(25,.slice T N d),(26,iZ N),(27,iZ k1)]) (λk1 y1=>[]++(y1.bl++[])) (λk1 y1=>y1.Is 42 4 (Hk n f k1)) y0 hy0 ac5 (λw hw=>by simpa using hw) (λk1 y1 hk1 hh1=>?_)
  refine sC ?_
  obtain ⟨b2,hb2⟩:=xE (decide (k1<N))
  refine sS (.bool b2) (qls U U U hb2)<|sG<|Sy.seq ?_
  cases b2
  ·have lb2:=dN hb2
   refine sU<|Sy.exit<|Sy.then_exit<|Sy.then_exit ?_
   obtain rfl:N=k1:=om
   refine Sy.in_exit<|sB<|sP (y1.v)<|sP (y1.v)<|sG<|Sy.ret ?_
   exact Dz (y1.bl) rfl (v:=y1.v) (.inl (show _=_ by kernel_rfl)) (λ_ hw=>by simpa using hw) ⟨y1,hh1,rfl,rfl⟩
  ·have lb2:=dY hb2
   have hsk:A4 n k1+n k1≤A4 n N:=Cj n (show k1+1≤N by omega)
   refine sT<|Sy.skip<|Sy.then_<|Sy.seq<|Sy.block<|sC<|sS (.pointer (some ⟨gT,oT+k1*1,none⟩)) (Quiet.pure (AJ 29 _ _ _ T gT oT N d k1 1 .i64 (hT om).1 U U U B4 kF om))<|sS (.slice (a k1) (n k1) (c k1)) (Quiet.thereOne gT (oT+k1*1) 51 _ _ U kR (hT om).2.1 _ (AR ((hT om).2.2 k1 om) 0 U) B3 U)<|sP (.slice (a k1) (n k1) (c k1))<|sG<|Sy.region<|sP (y1.v)<|sP (.slice (a k1) (n k1) (c k1))<|Sy.appendM kR 51 42 _ _ 4 32 B3 Du U U U U dZ _ _ U (ys:=(List.range (n k1)).map (f k1)) hh1 kR (λz hz=>by obtain ⟨i,_,rfl⟩:=List.mem_map.1 hz; exact hf1 _ _) (λz hz=>by obtain ⟨i,_,rfl⟩:=List.mem_map.1 hz; exact hf2 _ _) (a k1) (n k1) (c k1) (by rw [List.length_map,List.length_range]) (hnc k1 om) kR (λ_=>From.lst (hl k1 om) (hf1 k1)) (by rw [EE]; omega) (by rw [EE]; simp only [maxLen]; omega) (λr1 hr1=>?_)
   refine sP (r1.v)<|Sy.nil<|Sy.in_<|Sy.then_<|Sy.region<|sS (iZ (k1+1)) (qad U U U)<|sP (iZ (k1+1))<|Sy.nil ?_
   exact Sy.againT (r1) om (hr1) ac5 (λw hw=>hw)
 ·have lb1:=dY hb1
  have hsk:A4 n k1+n k1≤A4 n N:=Cj n (show k1+1≤N by omega)
  refine sT<|Sy.skip<|Sy.then_<|Sy.seq<|Sy.block<|sC<|sS (.pointer (some ⟨gT,oT+k1*1,none⟩)) (Quiet.pure (AJ 29 _ _ _ T gT oT N d k1 1 .i64 (hT om).1 U U U B4 kF om))<|sS (.slice (a k1) (n k1) (c k1)) (Quiet.thereOne gT (oT+k1*1) 51 _ _ U kR (hT om).2.1 _ (AR ((hT om).2.2 k1 om) 0 U) B3 U)<|sP (.slice (a k1) (n k1) (c k1))<|sA<|sP (iZ ((A4 n k1)))<|sP (.slice (a k1) (n k1) (c k1))<|sP (iZ ((n k1)))<|sS (iZ ((A4 n k1)+(n k1))) (qad U U U)<|sP (iZ ((A4 n k1)+(n k1)))<|sA<|sP (iZ ((A4 n k1)+(n k1))) ?_
  obtain ⟨b3,hb3⟩:=xE (decide ((A4 n k1)+(n k1)<0))
  refine sS (.bool b3) (qls U U U hb3)<|sG ?_
  cases b3
  ·have lb3:=dN hb3
   refine sU<|Sy.skip<|Sy.in_<|Sy.then_<|Sy.region<|sS (iZ (k1+1)) (qad U U U)<|sP (iZ (k1+1))<|Sy.nil ?_
   exact Sy.againK [] (M:=[]) om ac5 kR U
  ·have lb3:=dY hb3
   exact absurd lb3 om
end Cu
end
section
namespace Cu
open Go.RowKit Sy
def Aj (D:Nat→Nat):Nat→Nat
 | 0=>32
 | k+1=>Aj D k+D k*32
theorem LU (w:World) (Z:Option Addr) (N zc:Nat) (D:Nat→Nat) (hN:N≤32) (hD:∀ i,i<N→D i≤64) (hlz:Lst w 1 Z N (λk=>[iZ (D k)])):Calls Tryz.prog 150 #[.slice Z N zc] w (Gets w (iZ (Aj D N))):=by
 obtain ⟨gZ,oZ,hZ⟩:=hlz
 refine Sy.enter (args:=[.slice Z N zc]) Tryz.func150 U kL<|sC<|sP (.int .i64 0)<|sA<|sP (.int .i64 32)<|sG<|Sy.seq<|sC<|sP (.slice Z N zc)<|sP (iZ N)<|sP (.int .i64 0)<|sG<|Sy.block<|Sy.loopH N (λk1=>Aj D k1≤32+2048*k1) (λk1=>[(0,.slice Z N zc),(3,iZ ((Aj D k1))),(6,.slice Z N zc),(7,iZ N),(8,iZ k1)]) (λk1=>[]) [] (M:=[]) (Nat.le_refl _) ac5 kR U (λk1 hk1 hh=>?_)
 have hh1:=hh
 refine sC ?_
 obtain ⟨b1,hb1⟩:=xE (decide (k1<N))
 refine sS (.bool b1) (qls U U U hb1)<|sG<|Sy.seq ?_
 cases b1
 ·have lb1:=dN hb1
  refine sU<|Sy.exit<|Sy.then_exit<|Sy.then_exit ?_
  obtain rfl:N=k1:=om
  refine Sy.in_exit<|sB<|sP (iZ ((Aj D N)))<|sP (iZ ((Aj D N)))<|sG<|Sy.ret ?_
  exact rV (iZ ((Aj D N))) U
 ·have lb1:=dY hb1
  have hD1:=hD k1 lb1
  refine sT<|Sy.skip<|Sy.then_<|Sy.seq<|Sy.block<|sC<|sS (.pointer (some ⟨gZ,oZ+k1*1,none⟩)) (Quiet.pure (AJ 131 _ _ _ Z gZ oZ N zc k1 1 .i64 (hZ om).1 U U U C9 kF om))<|sS (iZ ((D k1))) (Quiet.thereOne gZ (oZ+k1*1) 3 _ _ U kR (hZ om).2.1 _ (AR ((hZ om).2.2 k1 om) 0 U) uy3 U)<|sP (iZ ((D k1)))<|sG<|Sy.region<|sP (iZ ((Aj D k1)))<|sP (iZ ((D k1)))<|sS (iZ ((D k1)*32)) (qml U U U)<|sS (.int .i64 (((Aj D k1)+((D k1)*32):Nat):Int)) (qad U U U)<|sP (.int .i64 (((Aj D k1)+((D k1)*32):Nat):Int))<|Sy.nil<|Sy.in_<|Sy.then_<|Sy.region<|sS (iZ (k1+1)) (qad U U U)<|sP (iZ (k1+1))<|Sy.nil ?_
  exact Sy.againH [] (M:=[]) om (by show Aj D k1+D k1*32≤_; have:=hD k1 (by omega); omega) ac5 kR U
end Cu
end
section
namespace Cu
open Go.RowKit Sy
def D0 (s:Nat→Nat→Nat) (sn:Nat→Nat):Nat→List Nat
 | 0=>[]
 | k+1=>D0 s sn k++(List.range (sn k)).map (s k)
theorem Dj (s:Nat→Nat→Nat) (sn:Nat→Nat):∀ k,(D0 s sn k).length=A4 sn k
 | 0=>rfl
 | k+1=>by
  show (D0 s sn k++_).length=A4 sn k+sn k
  rw [List.length_append,Dj s sn k,List.length_map,List.length_range]
theorem Kb {s:Nat→Nat→Nat} {sn:Nat→Nat} (h:∀ i k,s i k<K4):∀ k, ∀ x∈D0 s sn k,x<K4
 | 0,x,hx=>by cases hx
 | k+1,x,hx=>by
  rcases List.mem_append.1 hx with hx | hx
  ·exact Kb h k x hx
  ·obtain ⟨i,_,rfl⟩:=List.mem_map.1 hx
   exact h _ _
theorem Ka (s:Nat→Nat→Nat) (sn:Nat→Nat):∀ k,Hk sn (λi j=>fws (s i j)) k=(D0 s sn k).map fws
 | 0=>rfl
 | k+1=>by
  show Hk sn _ k++_=(D0 s sn k++_).map fws
  rw [List.map_append,Ka s sn k,List.map_map]
  rfl
theorem Eo {f g:Nat→Nat}:∀ k,(∀ j,j<k→f j=g j)→DN f k=DN g k
 | 0,_=>rfl
 | k+1,h=>by
  show DN f k++_=DN g k++_
  rw [Eo k (λj hj=>h j om),h k (Nat.lt_succ_self k)]
theorem Gj (f:Nat→Nat) (a:Nat):∀ b,DN f (a+b)=DN f a++DN (λj=>f (a+j)) b
 | 0=>(List.append_nil _).symm
 | b+1=>by
  show DN f (a+b)++_=_++(DN _ b++_)
  rw [Gj f a b,List.append_assoc]
  rfl
def atL (l:List Nat) (j:Nat):Nat:=l.getD j 0
theorem Km {a b:List Nat} {j:Nat} (h:j<a.length):atL (a++b) j=atL a j:=by unfold atL; rw [List.getD_eq_getElem?_getD,List.getD_eq_getElem?_getD,List.getElem?_append_left h]
theorem Ib {a b:List Nat} {j:Nat}:atL (a++b) (a.length+j)=atL b j:=by unfold atL; rw [List.getD_eq_getElem?_getD,List.getD_eq_getElem?_getD,List.getElem?_append_right (Nat.le_add_right _ _),Nat.add_sub_cancel_left]
theorem Ic {f:Nat→Nat} {n j:Nat} (h:j<n):atL ((List.range n).map f) j=f j:=by unfold atL; rw [List.getD_eq_getElem?_getD,List.getElem?_map,List.getElem?_range h]; rfl
theorem E3 (s:Nat→Nat→Nat) (sn:Nat→Nat):∀ k,DN (atL (D0 s sn k)) (A4 sn k)=Ef s sn k
 | 0=>rfl
 | k+1=>by
  show DN (atL (D0 s sn k++(List.range (sn k)).map (s k))) (A4 sn k+sn k)=Ef s sn k++DN (s k) (sn k)
  rw [Gj,Eo (g:=atL (D0 s sn k)) _ (λj hj=>Km (by rw [Dj]; exact hj)),E3 s sn k,Eo (g:=s k) _ (λj hj=>by
   rw [← Dj s sn k,Ib,Ic hj])]
theorem Qt (l:List Nat):l.map fws=(List.range l.length).map (λj=>fws (atL l j)):=by
 apply List.ext_getElem
 ·rw [List.length_map,List.length_map,List.length_range]
 ·intro j h1 h2
  rw [List.getElem_map,List.getElem_map,List.getElem_range]
  unfold atL
  rw [List.getD_eq_getElem?_getD,List.getElem?_eq_getElem (by simpa using h1)]
  rfl
theorem Ss {l:List Nat} (h:∀ x∈l,x<K4) (j:Nat):atL l j<K4:=by
 unfold atL
 rw [List.getD_eq_getElem?_getD]
 cases hx:l[j]? with
 | none=>exact Lu
 | some x=>exact h x (List.mem_of_getElem? hx)
theorem PK (w:World) (d:List UInt8) (hd:d.length=32) (W:Option Addr) (NW cW:Nat) (sa:Nat→Option Addr) (sn sc:Nat→Nat) (s:Nat→Nat→Nat) (hsc:∀ i k,s i k<K4) (hNW:NW≤4611686018427387904) (hsn9:∀ i,i<NW→sn i≤4611686018427387904) (hlw:Lst w 1 W NW (λi=>[.slice (sa i) (sn i) (sc i)])) (hls:∀ i,i<NW→Lst w 4 (sa i) (sn i) (λk=>fws (s i k))) (hW9:NW≤2000000) (hsum:A4 sn NW≤2000000) (hsc9:∀ i,i<NW→sn i≤sc i):Calls Tryz.prog 86 #[AX d W NW cW] w (GetsN w ((λvq Mq=>∃ y:Slc,vq=y.v∧Mq=y.bl∧y.Is 5 1 (Aq (d++Ef s sn NW))))):=by
 have hlw0:=hlw
 obtain ⟨gW,oW,hW⟩:=hlw
 refine Sy.enter (args:=[AX d W NW cW]) Tryz.func86 U kL<|sC<|sM 31 (AM d W NW cW).toArray (λg0=>?_)
 refine sP (.slice none 0 0)<|sA<|sP (pT g0 0)<|sP (.slice (pA g0) 32 32)<|Sy.callN kR 147 #[.slice (pA g0) 32 32] kF ((λvq Mq=>∃ y:Slc,vq=y.v∧Mq=y.bl∧y.Is 5 1 (Aq d))) (λw hw=>Lh w g0 0 d 32 32 hd dZ (Nat.le_refl _) dZ (Iv (hw.get (i:=0) rfl))) (λvq Mq hR0=>?_)
 obtain ⟨yC,rfl,rfl,hyC⟩:=hR0
 refine Sy.permS (M:=[(g0,31,(AM d W NW cW).toArray)]++(yC.bl++([]))) (by rw [List.append_nil]; exact List.Perm.refl _)<|sP (yC.v)<|sG<|Sy.seq<|sC<|sP (pT g0 32)<|sS (.slice W NW cW) (Quiet.cell 0 g0 32 31 29 (AM d W NW cW).toArray _ _ U kR kR B4 U _ (Dd hd))<|Sy.callN kR 148 #[.slice W NW cW] kF (Cf 42 4 (Hk sn (λi j=>fws (s i j)) NW)) (λw hw=>KW w W NW cW sa sn sc (λi j=>fws (s i j)) (λ_ _=>rfl) (λ_ _=>C2 _) hW9 hsum hsc9 (hlw0.below hw.below) (λi hi=>(hls i hi).below hw.below)) (λvq Mq hR0=>?_)
 obtain ⟨y0,hy0,rfl,rfl⟩:=hR0
 obtain ⟨lN,hlN⟩:=xE (D0 s sn NW)
 obtain ⟨T,hT⟩:=xE (A4 sn NW)
 have hTl:lN.length=T:=by rw [hlN,hT]; exact Dj _ _ _
 have hT9:T≤2000000:=by rw [hT]; exact hsum
 have hN4:∀ j,atL lN j<K4:=Ss (by rw [hlN]; exact Kb hsc _)
 rw [Ka, ← hlN,Qt,hTl] at hy0
 refine Sy.permS Sy.end_front<|sS (iZ T) (Quiet.lenR hy0 (by rw [List.length_map,List.length_range]) _ B3 U U)<|sP (.int .i64 0)<|sG<|Sy.block<|Sy.loopT (Y:=Slc) T (λk1 y1=>[(1,pT g0 0),(3,y1.v),(12,y0.v),(13,iZ T),(14,iZ k1)]) (λk1 y1=>[(g0,31,(AM d W NW cW).toArray)]++(y0.bl++(y1.bl++([])))) (λk1 y1=>y1.Is 5 1 (Aq (d++DN (atL lN) k1))) yC (by rw [show d++DN (atL lN) 0=d from List.append_nil d]; exact hyC) ac5 (λw hw=>hw) (λk1 y1 hk1 hh1=>?_)
 refine sC ?_
 obtain ⟨b1,hb1⟩:=xE (decide (k1<T))
 refine sS (.bool b1) (qls U U U hb1)<|sG<|Sy.seq ?_
 cases b1
 ·have lb1:=dN hb1
  refine sU<|Sy.exit<|Sy.then_exit<|Sy.then_exit ?_
  obtain rfl:T=k1:=om
  refine Sy.in_exit<|sB<|sP (y1.v)<|sP (y1.v)<|sG<|Sy.ret ?_
  exact Dz y1.bl U (v:=y1.v) (.inl (show _=_ by kernel_rfl)) (λw hw=>St.parts (ls:=[[(g0,31,(AM d W NW cW).toArray)],y0.bl,y1.bl]) (ms:=[y1.bl]) [[(g0,31,(AM d W NW cW).toArray)],y0.bl] [2,0,1] kR (by rfl) (by rfl) (by simp) hw) ⟨y1,rfl,rfl,by rw [← E3, ← hlN, ← hT]; exact hh1⟩
 ·have lb1:=dY hb1
  obtain ⟨gR,cR2,spR,hv0,hb0,hk1s,hk2s,hk3s⟩:=hy0.open om
  obtain ⟨fL,hfL⟩:∃ f:Nat→List Value,f=λj=>fws (atL lN j):=⟨_,rfl⟩
  rw [← hfL] at hb0
  have hf4:∀ j,(fL j).length=4:=λj=>by rw [hfL]; rfl
  obtain ⟨yv,yb⟩:=y0
  obtain rfl:yv=_:=hv0
  obtain rfl:yb=_:=hb0
  refine Sy.permC (M:=[(g0,31,(AM d W NW cW).toArray),(gR,42,(AO fL T++spR).toArray)]++(y1.bl++([]))) (by exact List.Perm.refl _)<|sT<|Sy.skip<|Sy.then_<|Sy.seq<|Sy.block<|sC<|sS (.pointer (some ⟨gR,0+k1*4,none⟩)) (Quiet.pure (BT 51 _ _ _ gR 0 T cR2 k1 4 .i64 U U U B3 kF om))<|sS (fv (atL lN k1)) (Quiet.load 1 gR (0+k1*4) 4 42 42 (AO fL T++spR).toArray _ _ U kR kR Ak U kR _ ((JH (k:=k1) hf4 om U).trans (by rw [hfL]; rfl)) (IU (k:=k1) hf4 om U))<|sM 42 (fcs 0) (λg1=>?_)
  refine Sy.movT<|sW 2 g1 42 (fcs 0) (fcs (atL lN k1)) (wS 0 42 (fcs (atL lN k1)) U)<|Sy.setT<|sA<|sS (fv (atL lN k1)) (qL 2 g1 0 4 42 42 (fcs (atL lN k1)) U Ak)<|sS (.agg ((AY ((atL lN k1)%Sc.pM)).map bv).toArray) (qF 149 #[fv (atL lN k1)] (λw=>Sc.bytes_any w _ (hN4 _)))<|Sy.make kR 22 (Zl 32).toArray ptr kF (λg2=>?_)
  refine Sy.movT<|Sy.write kR 3 g2 22 (Zl 32).toArray ((AY ((atL lN k1)%Sc.pM)).map bv).toArray kR (Writes.store 0 22 ((AY ((atL lN k1)%Sc.pM)).map bv).toArray _ _ U kR kR (by rw [DI (AY ((atL lN k1)%Sc.pM)) (AQ _)]; kernel_rfl) (by rw [DI (AY ((atL lN k1)%Sc.pM)) (AQ _)]; exact Nat.le_of_ble_eq_true kR) (E' _) (GM _ _ (by rw [(AQ _)]; kernel_rfl)))<|Sy.setT<|sG<|Sy.region<|sP (y1.v)<|sP (.slice (pA g2) 32 32)<|Sy.appendM kR 24 5 _ _ 1 1 CI EU U U U U dZ _ _ U (ys:=Aq (AY ((atL lN k1)%Sc.pM))) hh1 kR (CQ _) (B7 _) (pA g2) 32 32 (by rw [A6]; exact (AQ _)) (Nat.le_refl _) kR (λ_=>From.arr (i:=3) (t:=22) (l:=(AY ((atL lN k1)%Sc.pM))) kR) (by simp only [A6,List.length_append,D8]; omega) (by simp only [A6,List.length_append,D8,maxLen]; omega) (λr1 hr1=>?_)
  refine sP (r1.v)<|Sy.nil<|Sy.in_<|Sy.then_<|Sy.region<|sS (iZ (k1+1)) (qad U U U)<|sP (iZ (k1+1))<|Sy.nil ?_
  exact Sy.againT (r1) om (by rw [show d++DN (atL lN) (k1+1)=(d++DN (atL lN) k1)++AY (atL lN k1%Sc.pM) from (List.append_assoc ..).symm,Dv]; exact hr1) ac5 (λw hw=>St.parts (ls:=[[(g0,31,(AM d W NW cW).toArray)],[(gR,42,(AO fL T++spR).toArray)],[(g1,42,(fcs (atL lN k1)))],[(g2,22,((AY ((atL lN k1)%Sc.pM)).map bv).toArray)],r1.bl]) (ms:=[[(g0,31,(AM d W NW cW).toArray)],[(gR,42,(AO fL T++spR).toArray)],r1.bl]) [[(g1,42,(fcs (atL lN k1)))],[(g2,22,((AY ((atL lN k1)%Sc.pM)).map bv).toArray)]] [0,1,4,2,3] kR (by rfl) (by rfl) (by rfl) hw)
end Cu
end
section
namespace Cu
open Go.RowKit Sy
def mnZ (D:Nat→Int):Nat→Int
 | 0=>D 0
 | k+1=>min (mnZ D k) (D (k+1))
def mxZ (D:Nat→Int):Nat→Int
 | 0=>D 0
 | k+1=>max (mxZ D k) (D (k+1))
theorem SX (D:Nat→Int) (a:Int) (k:Nat):a≤mnZ D k↔∀ j,j≤k→a≤D j:=by
 induction k with
 | zero=>exact ⟨λh j hj=>by rw [Nat.le_zero.1 hj]; exact h,λh=>h 0 (Nat.le_refl _)⟩
 | succ k ih =>
  show a≤min (mnZ D k) (D (k+1))↔_
  rw [Int.le_min,ih]
  exact ⟨λh j hj=>(Nat.lt_or_eq_of_le hj).elim (λq=>h.1 j om) (λq=>by rw [q]; exact h.2),λh=>⟨λj hj=>h j om,h _ (Nat.le_refl _)⟩⟩
theorem SV (D:Nat→Int) (a:Int) (k:Nat):mxZ D k≤a↔∀ j,j≤k→D j≤a:=by
 induction k with
 | zero=>exact ⟨λh j hj=>by rw [Nat.le_zero.1 hj]; exact h,λh=>h 0 (Nat.le_refl _)⟩
 | succ k ih =>
  show max (mxZ D k) (D (k+1))≤a↔_
  rw [Int.max_le,ih]
  exact ⟨λh j hj=>(Nat.lt_or_eq_of_le hj).elim (λq=>h.1 j om) (λq=>by rw [q]; exact h.2),λh=>⟨λj hj=>h j om,h _ (Nat.le_refl _)⟩⟩
section
variable {F:AK} {o:Oper}
theorem Nh (x y:Operand) {ts:Array TypeId} (k:IntKind) (a b c:Int) (ho:o.op=.call { callee:=.builtin .min,args:=#[x,y],argTypes:=ts }) (hx:evF F x=.int k a) (hy:evF F y=.int k b) (h:min a b=c) (w:World):(execOp (evF F) o).run Tryz.prog w=.ok (.value (.int k c)) w:=by
 have e:(if b<a then b else a)=c:=by split <;> omega
 unfold execOp
 simp [ho,hx,hy,resolve,invoke,builtin,Builtin.min_,Builtin.min2,Sem.run_bind,Result.andThen]
 omega
theorem Ni (x y:Operand) {ts:Array TypeId} (k:IntKind) (a b c:Int) (ho:o.op=.call { callee:=.builtin .max,args:=#[x,y],argTypes:=ts }) (hx:evF F x=.int k a) (hy:evF F y=.int k b) (h:max a b=c) (w:World):(execOp (evF F) o).run Tryz.prog w=.ok (.value (.int k c)) w:=by
 have e:(if a<b then b else a)=c:=by split <;> omega
 unfold execOp
 simp [ho,hx,hy,resolve,invoke,builtin,Builtin.max_,Builtin.max2]
 omega
end
theorem Ox (w:World) (A:Option Addr) (M c:Nat) (D:Nat→Int) (hN:M+1≤4611686018427387904) (hlk:Lst w 1 A (M+1) (λk=>[.int .i64 (D k)])):Calls Tryz.prog 153 #[.slice A (M+1) c] w (Gets w (.int .i64 (mnZ D M))):=by
 obtain ⟨gK,oK,hT⟩:=hlk
 refine Sy.enter (args:=[.slice A (M+1) c]) Tryz.func153 U kL<|sC<|sP (.int .i64 0)<|sG<|Sy.seq<|sC<|sP (.slice A (M+1) c)<|sP (iZ ((M+1))) ?_
 obtain ⟨b1,hb1⟩:=xE (decide ((M+1)<1))
 refine sS (.bool b1) (qls U U U hb1)<|sG ?_
 cases b1
 ·have lb1:=dN hb1
  refine sU<|Sy.skip<|sB<|sP (.slice A (M+1) c)<|sS (.pointer (some ⟨gK,oK+0*1,none⟩)) (Quiet.pure (AJ 131 _ _ _ A gK oK (M+1) c 0 1 .i64 (hT om).1 U U U C9 kF om))<|sS (.int .i64 (D 0)) (Quiet.thereOne gK (oK+0*1) 3 _ _ U kR (hT om).2.1 _ (AR ((hT om).2.2 0 om) 0 U) uy3 U)<|sP (.int .i64 (D 0))<|sG<|Sy.seq<|sC<|sP (.int .i64 1)<|sG<|Sy.block<|Sy.loopK M (λk1=>[(0,.slice A (M+1) c),(3,.int .i64 (mnZ D k1)),(4,iZ (k1+1))]) (λk1=>[]) [] (M:=[]) ac3 kR U (λk1 hk1=>?_)
  refine Sy.seq<|sC<|sP (iZ (k1+1))<|sP (.slice A (M+1) c)<|sP (iZ ((M+1))) ?_
  obtain ⟨b2,hb2⟩:=xE (decide (k1+1<(M+1)))
  refine sS (.bool b2) (qls U U U hb2)<|sG ?_
  cases b2
  ·have lb2:=dN hb2
   refine sU<|Sy.exit<|Sy.then_exit<|Sy.then_exit ?_
   obtain rfl:M=k1:=om
   refine Sy.in_exit<|sB<|sP (.int .i64 (mnZ D M))<|sP (.int .i64 (mnZ D M))<|sG<|Sy.ret ?_
   rw [show (.int .i64 (mnZ D M):Value)=.int .i64 (mnZ D M) from rfl]
   exact rV (.int .i64 (mnZ D M)) U
  ·have lb2:=dY hb2
   refine sT<|Sy.skip<|Sy.then_<|Sy.seq<|Sy.block<|Sy.region<|sP (.int .i64 (mnZ D k1))<|sP (.slice A (M+1) c)<|sP (iZ (k1+1))<|sS (.pointer (some ⟨gK,oK+(k1+1)*1,none⟩)) (Quiet.pure (AJ 131 _ _ _ A gK oK (M+1) c (k1+1) 1 .i64 (hT om).1 U U U C9 kF om))<|sS (.int .i64 (D (k1+1))) (Quiet.thereOne gK (oK+(k1+1)*1) 3 _ _ U kR (hT om).2.1 _ (AR ((hT om).2.2 (k1+1) om) 0 U) uy3 U)<|sS (.int .i64 (mnZ D (k1+1))) (Quiet.pure (Nh _ _ .i64 (mnZ D k1) (D (k1+1)) (mnZ D (k1+1)) U U U U))<|sP (.int .i64 (mnZ D (k1+1)))<|Sy.nil<|Sy.in_<|Sy.then_<|Sy.region<|sP (iZ (k1+1))<|sS (iZ ((k1+1)+1)) (qad U U U)<|sP (iZ ((k1+1)+1))<|Sy.nil ?_
   exact Sy.againK [] (M:=[]) om ac3 kR U
 ·have lb1:=dY hb1
  exact absurd lb1 om
theorem O0 (w:World) (A:Option Addr) (M c:Nat) (D:Nat→Int) (hN:M+1≤4611686018427387904) (hlk:Lst w 1 A (M+1) (λk=>[.int .i64 (D k)])):Calls Tryz.prog 154 #[.slice A (M+1) c] w (Gets w (.int .i64 (mxZ D M))):=by
 obtain ⟨gK,oK,hT⟩:=hlk
 refine Sy.enter (args:=[.slice A (M+1) c]) Tryz.func154 U kL<|sC<|sP (.int .i64 0)<|sG<|Sy.seq<|sC<|sP (.slice A (M+1) c)<|sP (iZ ((M+1))) ?_
 obtain ⟨b1,hb1⟩:=xE (decide ((M+1)<1))
 refine sS (.bool b1) (qls U U U hb1)<|sG ?_
 cases b1
 ·have lb1:=dN hb1
  refine sU<|Sy.skip<|sB<|sP (.slice A (M+1) c)<|sS (.pointer (some ⟨gK,oK+0*1,none⟩)) (Quiet.pure (AJ 131 _ _ _ A gK oK (M+1) c 0 1 .i64 (hT om).1 U U U C9 kF om))<|sS (.int .i64 (D 0)) (Quiet.thereOne gK (oK+0*1) 3 _ _ U kR (hT om).2.1 _ (AR ((hT om).2.2 0 om) 0 U) uy3 U)<|sP (.int .i64 (D 0))<|sG<|Sy.seq<|sC<|sP (.int .i64 1)<|sG<|Sy.block<|Sy.loopK M (λk1=>[(0,.slice A (M+1) c),(3,.int .i64 (mxZ D k1)),(4,iZ (k1+1))]) (λk1=>[]) [] (M:=[]) ac3 kR U (λk1 hk1=>?_)
  refine Sy.seq<|sC<|sP (iZ (k1+1))<|sP (.slice A (M+1) c)<|sP (iZ ((M+1))) ?_
  obtain ⟨b2,hb2⟩:=xE (decide (k1+1<(M+1)))
  refine sS (.bool b2) (qls U U U hb2)<|sG ?_
  cases b2
  ·have lb2:=dN hb2
   refine sU<|Sy.exit<|Sy.then_exit<|Sy.then_exit ?_
   obtain rfl:M=k1:=om
   refine Sy.in_exit<|sB<|sP (.int .i64 (mxZ D M))<|sP (.int .i64 (mxZ D M))<|sG<|Sy.ret ?_
   rw [show (.int .i64 (mxZ D M):Value)=.int .i64 (mxZ D M) from rfl]
   exact rV (.int .i64 (mxZ D M)) U
  ·have lb2:=dY hb2
   refine sT<|Sy.skip<|Sy.then_<|Sy.seq<|Sy.block<|Sy.region<|sP (.int .i64 (mxZ D k1))<|sP (.slice A (M+1) c)<|sP (iZ (k1+1))<|sS (.pointer (some ⟨gK,oK+(k1+1)*1,none⟩)) (Quiet.pure (AJ 131 _ _ _ A gK oK (M+1) c (k1+1) 1 .i64 (hT om).1 U U U C9 kF om))<|sS (.int .i64 (D (k1+1))) (Quiet.thereOne gK (oK+(k1+1)*1) 3 _ _ U kR (hT om).2.1 _ (AR ((hT om).2.2 (k1+1) om) 0 U) uy3 U)<|sS (.int .i64 (mxZ D (k1+1))) (Quiet.pure (Ni _ _ .i64 (mxZ D k1) (D (k1+1)) (mxZ D (k1+1)) U U U U))<|sP (.int .i64 (mxZ D (k1+1)))<|Sy.nil<|Sy.in_<|Sy.then_<|Sy.region<|sP (iZ (k1+1))<|sS (iZ ((k1+1)+1)) (qad U U U)<|sP (iZ ((k1+1)+1))<|Sy.nil ?_
   exact Sy.againK [] (M:=[]) om ac3 kR U
 ·have lb1:=dY hb1
  exact absurd lb1 om
def szZ (N:Nat) (D:Nat→Int):Bool:=decide (1≤N) && (decide (N≤32) && (decide (mnZ D (N - 1) ≥ 1) && decide (mxZ D (N - 1)≤64)))
theorem EJ (N:Nat) (D:Nat→Int):szZ N D=true↔1≤N∧N≤32∧∀ j,j<N→1≤D j∧D j≤64:=by
 unfold szZ
 simp only [Bool.and_eq_true,decide_eq_true_eq,ge_iff_le,SX,SV]
 exact ⟨λ⟨a,b,c,d⟩=>⟨a,b,λj hj=>⟨c j om,d j om⟩⟩,λ⟨a,b,c⟩=>⟨a,b,λj hj=>(c j om).1,λj hj=>(c j om).2⟩⟩
theorem Rf {N:Nat} {D:Nat→Int} (h:N<1):szZ N D=false:=by unfold szZ; rw [decide_eq_false (by omega:¬ 1≤N)]; rfl
theorem Re {N:Nat} {D:Nat→Int} (h:N>32):szZ N D=false:=by unfold szZ; rw [decide_eq_false (by omega:¬ N≤32),Bool.false_and,Bool.and_false]
theorem TC {N:Nat} {D:Nat→Int} (h:¬ (mnZ D (N - 1) ≥ 1)):szZ N D=false:=by unfold szZ; rw [decide_eq_false h,Bool.false_and,Bool.and_false,Bool.and_false]
theorem TB {N:Nat} {D:Nat→Int} (h1:¬ N<1) (h2:¬ N>32) (h3:mnZ D (N - 1) ≥ 1):szZ N D=decide (mxZ D (N - 1)≤64):=by
 unfold szZ
 rw [decide_eq_true (by omega:1≤N),decide_eq_true (by omega:N≤32),decide_eq_true h3,Bool.true_and,Bool.true_and,Bool.true_and]
theorem NN (w:World) (A:Option Addr) (N c:Nat) (D:Nat→Int) (h1:1≤N) (hN:N≤4611686018427387904) (hlk:Lst w 1 A N (λk=>[.int .i64 (D k)])):Calls Tryz.prog 153 #[.slice A N c] w (Gets w (.int .i64 (mnZ D (N - 1)))):=by
 have e:N - 1+1=N:=om
 have q:=Ox w A (N - 1) c D om (by rw [e]; exact hlk)
 rwa [e] at q
theorem NP (w:World) (A:Option Addr) (N c:Nat) (D:Nat→Int) (h1:1≤N) (hN:N≤4611686018427387904) (hlk:Lst w 1 A N (λk=>[.int .i64 (D k)])):Calls Tryz.prog 154 #[.slice A N c] w (Gets w (.int .i64 (mxZ D (N - 1)))):=by
 have e:N - 1+1=N:=om
 have q:=O0 w A (N - 1) c D om (by rw [e]; exact hlk)
 rwa [e] at q
theorem JQ (w:World) (A:Option Addr) (N c:Nat) (D:Nat→Int) (hN:N≤4611686018427387904) (hlk:Lst w 1 A N (λk=>[.int .i64 (D k)])):Calls Tryz.prog 90 #[.slice A N c] w (Gets w (.bool (szZ N D))):=by
 have hlk0:=hlk
 obtain ⟨gK,oK,hT⟩:=hlk
 refine Sy.enter (args:=[.slice A N c]) Tryz.func90 U kL<|sC<|sP (.bool false)<|sG<|Sy.seq<|sC<|sP (.slice A N c)<|sP (iZ N) ?_
 obtain ⟨b1,hb1⟩:=xE (decide (N<1))
 refine sS (.bool b1) (qls U U U hb1)<|sP (.bool b1) ?_
 cases b1
 ·have lb1:=dN hb1
  refine sP (.slice A N c)<|sP (iZ N) ?_
  obtain ⟨b2,hb2⟩:=xE (decide (N>32))
  refine sS (.bool b2) (qgt U U U hb2)<|sP (.bool b2)<|sG ?_
  cases b2
  ·have lb2:=dN hb2
   refine sU<|Sy.skip<|sB<|sP (.slice A N c)<|sS (.int .i64 (mnZ D (N - 1))) (Quiet.callS 153 #[.slice A N c] kF (λw hw=>NN w A N c D om hN (hlk0.below hw.below))) ?_
   obtain ⟨b3,hb3⟩:=xE (decide ((mnZ D (N - 1)) ≥ 1))
   refine sS (.bool b3) (Quiet.pure (AU .geq _ _ _ .i64 _ _ _ U U U (ET _ _ _ _ _ hb3.symm)))<|sP (.bool b3) ?_
   cases b3
   ·have lb3:=dN hb3
    refine sN<|sN<|sN<|sP (.bool false)<|sP (.bool false)<|sG<|Sy.ret ?_
    rw [show (.bool (szZ N D):Value)=.bool false from by rw [TC lb3]]
    exact rV (.bool false) rfl
   ·have lb3:=dY hb3
    refine sP (.slice A N c)<|sS (.int .i64 (mxZ D (N - 1))) (Quiet.callS 154 #[.slice A N c] kF (λw hw=>NP w A N c D om hN (hlk0.below hw.below))) ?_
    obtain ⟨b4,hb4⟩:=xE (decide ((mxZ D (N - 1))≤64))
    refine sS (.bool b4) (Quiet.pure (AU .leq _ _ _ .i64 _ _ _ U U U (MT _ _ _ _ _ hb4.symm)))<|sP (.bool b4)<|sP (.bool b4)<|sG<|Sy.ret ?_
    rw [show (.bool (szZ N D):Value)=.bool b4 from by rw [TB lb1 lb2 lb3, ← hb4]]
    exact rV (.bool b4) rfl
  ·have lb2:=dY hb2
   refine sT<|sC<|sP (.bool false)<|sG<|Sy.ret<|Sy.then_ret ?_
   rw [show (.bool (szZ N D):Value)=.bool false from by rw [Re lb2]]
   exact rV (.bool false) rfl
 ·have lb1:=dY hb1
  refine sN<|sN<|sN<|sP (.bool true)<|sG<|sT<|sC<|sP (.bool false)<|sG<|Sy.ret<|Sy.then_ret ?_
  rw [show (.bool (szZ N D):Value)=.bool false from by rw [Rf lb1]]
  exact rV (.bool false) rfl
end Cu
end
section
namespace Sy
open Go.RowKit
section
variable {P:Program} {w0 fz0:World} {n:Nat} {Q:Exit→Act→World→Prop} {F:AK} {L:AC}
def BPY {α Y:Type} (w0 fz:World) (l:Nat) (HI:List α→Y→Prop) (LL:List α→Y→AC) (XR:List α→Y→AC) (HX:List α→Y→Prop) (pre:List α):Exit→Act→World→Prop
 | .normal,_,w=>∃ y,HI pre y∧St (rb w0 fz l) w (LL pre y)
 | .ret,_,w=>∃ y,HX pre y∧St (rb w0 fz l) w (XR pre y)
 | _,_,_=>False
def APY (w0 fz:World) (l n:Nat) (FA:AK) (LP:AC):Exit→Act→World→Prop
 | .normal,a,w=>Fr [] a n FA∧St (rb w0 fz l) w LP
 | _,_,_=>False
theorem rangeY {α Y:Type} {g:Operand} {ps:Array Tmp} {assign body:Code} (gf:Nat) (lb:Array Value) (hgi:inF F g=true) (hg:evF F g=.func (.func gf) #[] lb) (eg:∀ args w,(callFunc gf args).run P w=.ok (.enter gf args) w)
  (encs:α→Array Value) (kl:AC) (S Sp:List α→Prop) (N:Nat) (hps:∀ x,(encs x).size=ps.size) (hpn:∀ p∈ps.toList,p<n)
  (HI:List α→Y→Prop) (LL XR:List α→Y→AC) (HX:List α→Y→Prop) (y0:Y) (hI0:HI [] y0) (h0:∀ w,St ⟨w0,fz0,[],Fence.wide,9⟩ w L→St ⟨w0,fz0,[],Fence.wide,9⟩ w (LL [] y0))
  (hseq:∀ w,St ⟨w0,fz0,[],Fence.wide,9⟩ w L→∃ wk,Below wk.heap.size wk w∧SeqStopsK Fence.wide 8 P gf lb encs (KpL w0.heap.size kl) S Sp N wk)
  (hkl:∀ p∈kl, ∀ pre y,p∈LL pre y) (FA:α→AK)
  (hassign:∀ l fz pre y x,wpC P (rb w0 fz l) n (APY w0 fz l n (FA x) (LL pre y)) (I0 F ps (encs x)) (LL pre y) assign)
  (hbody:∀ l fz pre y x,pre.length<N→HI pre y→wpC P (rb w0 fz l) n (BPY w0 fz l HI LL XR HX (pre++[x])) (FA x) (LL pre y) body)
  (hdone:∀ D fz xs y,S xs→HI xs y→w0.heap.size≤D→fz.heap[D]? = some (.deferred (some []))→X (ab w0 fz D) n Q F (LL xs y) .normal)
  (hstop:∀ D fz pre y,Sp pre→HX pre y→w0.heap.size≤D→fz.heap[D]? = some (.deferred (some []))→X (ab w0 fz D) n Q F (XR pre y) .ret) :
  wpC P ⟨w0,fz0,[],Fence.wide,9⟩ n Q F L (.rangeFunc g ps assign body):=by
 intro a w ha hw
 obtain ⟨wk,hbk,hsq⟩:=hseq w hw
 have hsz:fz0.heap.size≤w.heap.size:=hw.size
 have hsz0:w0.heap.size≤w.heap.size:=hw.below.size
 have had:a.defers=[]:=ha.1
 have hK:∀ {W W':World} {L0 L1:AC} {pre':List α} {y':Y} {l:Nat},St ⟨w0,fz0,[],Fence.wide,9⟩ W L0→St (rb w0 W l) W' L1→(LL pre' y').Sublist L1→KpL w0.heap.size kl W W':=λ{W W' L0 L1 pre' y' l} h1 h2 hs =>
  ⟨h1.between h2,λp hp _=>by
   exact (h2.blk _ _ _ (hs.subset (hkl p hp pre' y'))).2⟩
 have hKX:∀ {W W':World} {L0 L1:AC} {l:Nat},St ⟨w0,fz0,[],Fence.wide,9⟩ W L0→St (rb w0 W l) W' L1→(∀ p∈kl,p∈L1)→KpL w0.heap.size kl W W':=λ{W W' L0 L1 l} h1 h2 hs =>
  ⟨h1.between h2,λp hp _=>by
   exact (h2.blk _ _ _ (hs p hp)).2⟩
 refine wpIn_rangeFunc_ownH (F:=Fence.wide) (n:=9) rfl om (gf:=gf) (lb:=lb) ((ha.eval hgi).trans hg) trivial eg (encs:=encs) (Kp:=KpL w0.heap.size kl) (S:=S) (Sp:=Sp) (N:=N) (w0:=wk) hsq KpL.trans
  (λW l o o' hl ho hc _=>KpL.put om ho hc) hbk hps
  (λpre W=>∃ y,HI pre y∧St ⟨w0,fz0,[],Fence.wide,9⟩ W (LL pre y)) (λc pre W=>c=.ret∧∃ y,HX pre y∧St ⟨w0,fz0,[],Fence.wide,9⟩ W (XR pre y))
  (λpre X Y row ⟨y,hi,hs⟩ hg hr=>⟨y,hi,St.own hs hsz hsz0 hg hr⟩) (λc pre X Y row ⟨hc,y,hi,hs⟩ hg hr=>⟨hc,y,hi,St.own hs hsz hsz0 hg hr⟩) ⟨y0,hI0,h0 w hw⟩
  (λx a' W=>Fr [] a' n (FA x))
  (λx a' _ X Y row hs hg hr=>hs) ?_ ?_ ?_ ?_
 ·-- the loop variables
  intro l pre x W K ⟨y,hH,hI⟩ hk
  have hfr:Fr [] { tmps:=(ps.zip (encs x)).foldl (λt (p,v)=>t.setIfInBounds p v) a.tmps,defers:=[] } n (I0 F ps (encs x)):=by
   have h1:Fr [] { tmps:=a.tmps,defers:=[] } n F:=⟨rfl,ha.2.1,ha.2.2⟩
   have h2:=Fr.round (ps.toList.zip (encs x).toList) (λy hy=>hpn y.1 (List.of_mem_zip hy).1) h1
   have e:(ps.zip (encs x)).foldl (λt (p,v)=>t.setIfInBounds p v) a.tmps=(ps.toList.zip (encs x).toList).foldl (λt x=>t.setIfInBounds x.1 x.2) a.tmps:=by
    rw [← Array.foldl_toList,Array.toList_zip]
   rw [e]
   exact h2
  refine wpIn_mono (hassign l W pre y x _ W hfr (hI.refix _ _ _)) λe a' W' hq=>?_
  cases e with
  | normal =>
   obtain ⟨h1,h2⟩:=hq
   exact hk a' W' (hI.keeps h2 hsz0) (hK hI h2 (List.Sublist.refl _)) ⟨y,hH,hI.back h2 _ _ _⟩ h1
  | _=>exact hq.elim
 ·-- the body
  intro l pre x a' W hl _ ⟨y,hH,hI⟩ h1 hlen
  refine wpIn_mono (hbody l W pre y x hlen hH a' W h1 (hI.refix _ _ _)) λe a3 W3 hq=>?_
  cases e with
  | normal =>
   obtain ⟨y',hH',hs'⟩:=hq
   exact ⟨hI.keeps hs' hsz0,hK hI hs' (List.Sublist.refl _),y',hH',hI.back hs' _ _ _⟩
  | ret =>
   obtain ⟨y',hH',hs'⟩:=hq
   exact ⟨hI.keeps hs' hsz0,rfl,y',hH',hI.back hs' _ _ _⟩
  | _=>exact hq.elim
 ·intro D xs W hD hS ⟨y,hH,hI⟩ hd
  exact hdone D W xs y hS hH (Nat.le_trans hsz0 hD) hd _ W ⟨by simp [had],ha.2.1,ha.2.2⟩ (hI.refix _ _ _)
 ·rintro D c pre W hD hS ⟨rfl,y,hx,hI⟩ hd
  exact wpIn_ret (hstop D W pre y hS hx (Nat.le_trans hsz0 hD) hd _ W ⟨by simp [had],ha.2.1,ha.2.2⟩ (hI.refix _ _ _))
theorem bpY {α Y:Type} {l:Nat} {HI:List α→Y→Prop} {LL XR:List α→Y→AC} {HX:List α→Y→Prop} {pre:List α} (y:Y) (hi:HI pre y) (hL:∀ w,St (rb w0 fz0 l) w L→St (rb w0 fz0 l) w (LL pre y)):X (rb w0 fz0 l) n (BPY w0 fz0 l HI LL XR HX pre) F L .normal:=λ_ w _ hw=>⟨y,hi,hL w hw⟩
theorem bpYR {α Y:Type} {l:Nat} {HI:List α→Y→Prop} {LL XR:List α→Y→AC} {HX:List α→Y→Prop} {pre:List α} (y:Y) (hi:HX pre y) (hL:∀ w,St (rb w0 fz0 l) w L→St (rb w0 fz0 l) w (XR pre y)):X (rb w0 fz0 l) n (BPY w0 fz0 l HI LL XR HX pre) F L .ret:=λ_ w _ hw=>⟨y,hi,hL w hw⟩
theorem apY {l:Nat} {FA:AK} {LP:AC} (hF:∀ p∈FA,F.lookup p.1=some p.2) (hL:∀ w,St (rb w0 fz0 l) w L→St (rb w0 fz0 l) w LP):X (rb w0 fz0 l) n (APY w0 fz0 l n FA LP) F L .normal:=λ_ w ha hw=>⟨ha.all hF,hL w hw⟩
theorem retMG2 {w1 fz:World} {D:Nat} {fn:Func} {r s:ResultVar} {v u:Value} {R:Value→AC→Prop} (M:AC) (hr:fn.results=#[r,s]) (h:Has P F L r v) (k:Has P F L s u) (hM:∀ w,St (Base.of w1) w L→St (Base.of w1) w M) (hR:R (.tuple #[v,u]) M) (hD:w1.heap.size≤D) (hm:fz.heap[D]? = some (.deferred (some []))):X (ab w1 fz D) n (bodyPostM Fence.wide 9 P fn (GetsN w1 R)) F L .ret:=λa w ha hw=>by
 obtain ⟨e1,e2⟩:=St.unmark (P:=P) hw hD hm
 have hd:a.defers=[SZ D]:=ha.1
 show LeavesInM Fence.wide 9 P fn a.tmps (GetsN w1 R) a.defers .returning w
 rw [hd]
 refine ⟨by simp,.inl ⟨D,_,rfl,e1,?_⟩⟩
 refine ⟨.tuple #[v,u],?_,_,M,rfl,hR,e2.below,λg t cs hm=>(hM _ e2).blk g t cs hm,(hM _ e2).apart⟩
 rcases Res.run h ha e2 with ⟨t,rfl,f1⟩ | ⟨t,ty,ad,rfl,f1,f2⟩ <;> rcases Res.run k ha e2 with ⟨t',rfl,g1⟩ | ⟨t',ty',ad',rfl,g1,g2⟩ <;> simp [results,Result.andThen, *]
theorem hasC {t:Tmp} {ty:TypeId} {v:Value} {d:TypeDesc} (g i:Nat) (cs:Array Value) (h3:P.underlying ty=some d) (h1:F.lookup t=some (pT g 0):=by kernel_rfl) (h2:L[i]? = some (g,ty,cs):=by kernel_rfl) (h4:d.isRow=false:=by rfl) (h5:cs[0]? = some v:=by kernel_rfl):Has P F L (.cell t ty) v:=.inr ⟨t,ty,rfl,g,i,ty,cs,d,h1,h2,h3,h4,h5⟩
end
end Sy
end
section
namespace Cu
open Go.RowKit Sy
def PX (b off m c:Nat):Value:=.slice (some ⟨b,off+32*c*1,none⟩) (szC m c) (szC m c)
def PY (b off m:Nat) {N:Nat} (x:Fin N):Array Value:=#[PX b off m x.val]
theorem Li (w : World) (A : Option Addr) (m cap : Nat) :
    Calls Tryz.prog 207 #[.slice A m cap,.int .i64 32] w (GetsN w λv M=>∃ g1 g2,v=.func (.func 243) #[] #[pT g1 0,pT g2 0]∧M=[(g1,24,#[.slice A m cap]),(g2,3,#[.int .i64 32])]):=by
  go_enter Tryz.func207,Tryz.ntmps207
  go_wp2
  go_ret
  refine ⟨_,_,rfl,⟨_,_,rfl,rfl⟩,Ab w _ _,λg t cs hm=>?_,?_⟩
  · simp only [List.mem_cons,List.not_mem_nil,or_false,Prod.mk.injEq] at hm
    rcases hm with ⟨rfl,rfl,rfl⟩ | ⟨rfl,rfl,rfl⟩
    · exact ⟨Nat.le_refl _,(Blk.new w _ _).alloc _⟩
    · exact ⟨by omega,AZ w _ _ _⟩
  · simp
theorem Lj (n l Bs Bn n₀ b off m cap N : Nat) (hN0 : N = (m + 31) / 32) (hm : m ≤ cap) (hm2 : m ≤ 4611686018427387904) (J Jx : List (Fin N) → World → Prop) (W : World) (hJ : AbidesFrom W.heap.size J) (hJx : AbidesFrom W.heap.size Jx)
    (hY:∀ pre x W1,J pre W1→pre.length<N→YieldAt Fence.wide (n - 1) Tryz.prog l (PY b off m x) W1 λe W'=>(e=.returned (.bool true)∧J (pre++[x]) W'∧KpL n₀ [(Bs,24,#[.slice (some ⟨b,off,none⟩) m cap]),(Bn,3,#[.int .i64 32])] W1 W')∨(e=.returned (.bool false)∧Jx (pre++[x]) W'))
    (hS:Blk W Bs 24 #[.slice (some ⟨b,off,none⟩) m cap]) (hN:Blk W Bn 3 #[.int .i64 32]) (h0:J [] W) :
    CallsIn Fence.wide n Tryz.prog 243 #[.func (.yield l) #[] #[],pT Bs 0,pT Bn 0] W λe W'=>(∃ v,e=.returned v)∧((∃ ys:List (Fin N),ys.map (·.1)=List.range N∧J ys W')∨(∃ pre:List (Fin N),(∃ k,k≤N∧pre.map (·.1)=List.range k)∧Jx pre W')):=by
  refine Sy.enterP (args:=[.func (.yield l) #[] #[],pT Bs 0,pT Bn 0]) Tryz.func243 U kL<|sC<|sP (.int .i64 0)<|sG<|Sy.block<|Sy.loopP N (λk1=>[(0,.func (.yield l) #[] #[]),(1,pT Bs 0),(2,pT Bn 0),(4,iZ (32*k1))]) (λk1 w=>∃ pre:List (Fin N),pre.map (·.1)=List.range k1∧J pre w∧Blk w Bs 24 #[.slice (some ⟨b,off,none⟩) m cap]∧Blk w Bn 3 #[.int .i64 32]) ac4 (λw hg=>⟨[],rfl,A_ hJ h0 hg,hg.blk hS,hg.blk hN⟩) (λk1 wr hk1 hz=>?_)
  clear hS hN
  obtain ⟨pre,hpre,hj,hS,hN⟩:=hz
  have hlen:pre.length=k1:=by have:=congrArg List.length hpre; rwa [List.length_map,List.length_range] at this
  refine Sy.seq<|sC<|sP (iZ (32*k1))<|sS (.slice (some ⟨b,off,none⟩) m cap) (Quiet.thereOne Bs 0 24 _ _ U kR hS.lt _ (hS.cell 0) CI U)<|sP (iZ m) ?_
  obtain ⟨b1,hb1⟩:=xE (decide (32*k1<m))
  refine sS (.bool b1) (qls U U U hb1)<|sG ?_
  cases b1
  · have lb1:=dN hb1
    refine sU<|Sy.exit<|Sy.then_exit<|Sy.then_exit ?_
    obtain rfl:N=k1:=om
    refine Sy.in_exit ?_
    exact Sy.retP U (λv w3 hg=>⟨⟨_,rfl⟩,.inl ⟨pre,hpre,A_ hJ hj hg⟩⟩) (.inr U)
  · have lb1 : 32 * k1 < m := of_decide_eq_true hb1.symm
    refine sT<|Sy.skip<|Sy.then_<|Sy.seq<|Sy.block<|Sy.seq<|Sy.regionD (λj=>false) kR<|sD 0 U (iZ 32) (Quiet.thereOne Bn 0 3 _ _ U kR hN.lt _ (hN.cell 0) uy3 U)<|sD 1 U (.slice (some ⟨b,off,none⟩) m cap) (Quiet.thereOne Bs 0 24 _ _ U kR hS.lt _ (hS.cell 0) CI U)<|sZ 2 U (iZ (32*k1))<|sD 3 U (.slice (some ⟨b,off+(32*k1)*1,none⟩) (m - (32*k1)) (cap - (32*k1))) (Quiet.pure (Hd _ _ _ b off m cap (32*k1) 1 .i64 U U U kR kF om om))<|sZ 4 U (.int .i64 (((m - (32*k1)):Nat):Int)) ?_
    obtain ⟨sz,hsz⟩:=xE (szC m k1)
    have hs:0<sz∧32*k1+sz≤m:=by rw [hsz]; unfold szC; omega
    refine sD 5 U (iZ sz) (Quiet.pure (He _ _ .i64 32 (m - (32*k1)) sz U U U (by rw [hsz]; unfold szC; omega)))<|sZ 6 U (iZ sz)<|sI<|Sy.seq ?_
    have hx:k1<N:=om
    refine Sy.regionY 10 (by rintro ⟨_,_,⟨_,hv⟩,_⟩; cases hv) kR<|sP (.func (.yield l) #[] #[])<|sS (.slice (some ⟨b,off,none⟩) m cap) (Quiet.thereOne Bs 0 24 _ _ rfl kR hS.lt _ (hS.cell 0) CI rfl)<|sP (iZ (32*k1))<|sP (iZ (32*k1))<|sP (iZ sz)<|sS (iZ ((32*k1)+sz)) (qad rfl rfl rfl)<|sP (iZ (32*k1))<|sP (iZ sz)<|sS (iZ ((32*k1)+sz)) (qad rfl rfl rfl)<|sS (.slice (some ⟨b,off+(32*k1)*1,none⟩) (((32*k1)+sz) - (32*k1)) (((32*k1)+sz) - (32*k1))) (Quiet.pure (KM _ _ _ _ _ b off m cap (32*k1) ((32*k1)+sz) ((32*k1)+sz) 1 .i64 .i64 .i64 rfl rfl rfl rfl rfl kR kF (by have:=hs; omega) (by have:=hs; omega) (by have:=hs; omega) (by have:=hs; omega)))<|Sy.nil<|Sy.yieldX (ro := none) rfl (by rintro ⟨_, _, ⟨_, hv⟩, _⟩; cases hv) kR kR l #[.slice (some ⟨b, off + (32 * k1) * 1, none⟩) (((32 * k1) + sz) - (32 * k1)) (((32 * k1) + sz) - (32 * k1))] kF (fun e W' => (e = .returned (.bool true) ∧ J (pre ++ [⟨k1, hx⟩]) W' ∧ Blk W' Bs 24 #[.slice (some ⟨b, off, none⟩) m cap] ∧ Blk W' Bn 3 #[.int .i64 32]) ∨ (e = .returned (.bool false) ∧ Jx (pre ++ [⟨k1, hx⟩]) W')) (fun w hg => by
            have e:PY b off m ⟨k1,hx⟩=#[.slice (some ⟨b,off+32*k1*1,none⟩) (32*k1+sz - 32*k1) (32*k1+sz - 32*k1)]:=by unfold PY PX; rw [← hsz,Nat.add_sub_cancel_left]
            have y:=hY pre ⟨k1,hx⟩ w (A_ hJ hj hg) om
            rw [e] at y
            exact GU y (λe w' q=>q.imp (λq=>⟨q.1,q.2.1,q.2.2.2 (Bs,24,_) (by simp) (hg.blk hS),q.2.2.2 (Bn,3,_) (by simp) (hg.blk hN)⟩) id)) (λe w' q=>q.elim (λq=>⟨_,q.1⟩) (λq=>⟨_,q.1⟩)) U (λw2 b hr=>?_)
    cases b
    · have hx2:=hr.elim (λq=>by cases q.1) (λq=>q.2)
      refine sP (.bool true)<|sG<|sT<|Sy.ret<|Sy.in_ret<|Sy.then_ret<|Sy.then_ret<|Sy.in_ret ?_
      exact Sy.retP U (λv w3 hg=>⟨⟨_,rfl⟩,.inr ⟨pre++[⟨k1,hx⟩],⟨k1+1,by omega,by rw [List.map_append,hpre,List.range_succ]; rfl⟩,A_ hJx hx2 hg⟩⟩) (.inl U)
    · clear hS hN hj
      obtain ⟨hj,hS,hN⟩:=hr.elim (λq=>q.2) (λq=>by cases q.1)
      refine sP (.bool false)<|sG<|sU<|Sy.skip<|Sy.in_<|Sy.then_<|Sy.region<|sP (iZ (32*k1))<|sS (iZ 32) (Quiet.thereOne Bn 0 3 _ _ U kR hN.lt _ (hN.cell 0) uy3 U)<|sS (iZ ((32*k1)+32)) (qad U U U)<|sP (iZ ((32*k1)+32))<|Sy.nil ?_
      exact Sy.againP om ac4 (λw3 hg=>⟨pre++[⟨k1,hx⟩],by rw [List.map_append,hpre,List.range_succ]; rfl,A_ hJ hj hg,hg.blk hS,hg.blk hN⟩)
theorem Lk (n l Bs Bn cap : Nat) (A : Option Addr) (J Jx : List (Fin 0) → World → Prop) (W : World) (hJ : AbidesFrom W.heap.size J)
    (hS:Blk W Bs 24 #[.slice A 0 cap]) (hN:Blk W Bn 3 #[.int .i64 32]) (h0:J [] W) :
    CallsIn Fence.wide n Tryz.prog 243 #[.func (.yield l) #[] #[],pT Bs 0,pT Bn 0] W λe W'=>(∃ v,e=.returned v)∧((∃ ys:List (Fin 0),ys.map (·.1)=List.range 0∧J ys W')∨(∃ pre:List (Fin 0),(∃ k,k≤0∧pre.map (·.1)=List.range k)∧Jx pre W')):=by
  refine Sy.enterP (args:=[.func (.yield l) #[] #[],pT Bs 0,pT Bn 0]) Tryz.func243 U kL<|sC<|sP (.int .i64 0)<|sG<|Sy.block<|Sy.loopP 0 (λk1=>[(0,.func (.yield l) #[] #[]),(1,pT Bs 0),(2,pT Bn 0),(4,iZ (32*k1))]) (λk1 w=>J [] w∧Blk w Bs 24 #[.slice A 0 cap]∧Blk w Bn 3 #[.int .i64 32]) ac4 (λw hg=>⟨A_ hJ h0 hg,hg.blk hS,hg.blk hN⟩) (λk1 wr hk1 hz=>?_)
  clear hS hN
  obtain ⟨hj,hS,hN⟩:=hz
  refine Sy.seq<|sC<|sP (iZ (32*k1))<|sS (.slice A 0 cap) (Quiet.thereOne Bs 0 24 _ _ U kR hS.lt _ (hS.cell 0) CI U)<|sP (iZ 0) ?_
  obtain ⟨b1,hb1⟩:=xE (decide (32*k1<0))
  refine sS (.bool b1) (qls U U U hb1)<|sG ?_
  cases b1
  · have lb1:=dN hb1
    refine sU<|Sy.exit<|Sy.then_exit<|Sy.then_exit ?_
    obtain rfl:k1=0:=om
    refine Sy.in_exit ?_
    exact Sy.retP U (λv w3 hg=>⟨⟨_,rfl⟩,.inl ⟨[],rfl,A_ hJ hj hg⟩⟩) (.inr U)
  · have lb1:=dY hb1
    refine sT<|Sy.skip<|Sy.then_<|Sy.seq ?_
    exact absurd lb1 om
theorem JM (n Bs Bn n₀ b off m cap N : Nat) (A : Option Addr) (hN0 : N = (m + 31) / 32) (hm : m ≤ cap) (hm2 : m ≤ 4611686018427387904) (hA : 0 < m → A = some ⟨b, off, none⟩) (w : World) (hS : Blk w Bs 24 #[.slice A m cap]) (hN : Blk w Bn 3 #[.int .i64 32]) :
    SeqStopsK Fence.wide n Tryz.prog 243 #[pT Bs 0,pT Bn 0] (PY b off m (N:=N)) (KpL n₀ [(Bs,24,#[.slice A m cap]),(Bn,3,#[.int .i64 32])]) (λys=>ys.map (·.1)=List.range N) (λpre=>∃ k,k≤N∧pre.map (·.1)=List.range k) N w:=λl J Jx W hW hJ hJx hY h0=>by
  have hS':=hS.below hW hS.lt
  have hN':=hN.below hW hN.lt
  rcases Nat.eq_zero_or_pos m with h | h
  · subst h
    obtain rfl:N=0:=hN0
    exact Lk n l Bs Bn cap A J Jx W hJ hS' hN' h0
  · obtain rfl:=hA h
    exact Lj n l Bs Bn n₀ b off m cap N hN0 hm hm2 J Jx W hJ hJx hY hS' hN' h0
end Cu
end
section
namespace Cu
open Go.RowKit Sy
def b32 (m:List UInt8) (k:Nat):List UInt8:=(m.drop (32*k)).take 32
def nmB (m:List UInt8) (k:Nat):Nat:=Ai (b32 m k)
theorem Mf {m:List UInt8} {D k:Nat} (h:m.length=32*D) (hk:k<D):(b32 m k).length=32:=by
 unfold b32
 rw [List.length_take,List.length_drop]
 omega
def ND (m:List UInt8) (D:Nat):Bool:=(List.range D).all λj=>decide (nmB m j<Sc.pM)
theorem Qg {m:List UInt8} {D:Nat} (h:∀ j,j<D→nmB m j<Sc.pM):ND m D=true:=List.all_eq_true.2 λj hj=>decide_eq_true (h j (List.mem_range.1 hj))
theorem SQ {m:List UInt8} {D j:Nat} (hj:j<D) (h:¬ nmB m j<Sc.pM):ND m D=false:=List.all_eq_false.2 ⟨j,List.mem_range.2 hj,by rw [decide_eq_false h]; decide⟩
def T4 (b:Bool) (f:Nat→Nat) (D:Nat) (v:Value) (M:AC):Prop:=(b=false∧v=.tuple #[.slice none 0 0,.bool false]∧M=[])∨(b=true∧∃ y:Slc,v=.tuple #[y.v,.bool true]∧M=y.bl∧y.Is 42 4 ((List.range D).map λj=>fws (f j)))
theorem L4 {w:World} {g o D k:Nat} {m:List UInt8} (hm:m.length=32*D) (hk:k<D) (hs:Sh.Src w (some ⟨g,o,none⟩) m):g<w.heap.size∧w.rangeAt g (o+32*k*1) ((b32 m k).map bv):=by
 have hne:m≠[]:=λe=>by rw [e] at hm; simp at hm; omega
 obtain ⟨b,o',e,h2,h3⟩:=hs hne
 cases e
 refine ⟨h2,λj v hj=>?_⟩
 rw [List.getElem?_map] at hj
 cases hx:(b32 m k)[j]? with
 | none=>rw [hx] at hj; cases hj
 | some u =>
  rw [hx] at hj
  injection hj with hj
  rw [← hj]
  have hl:=(List.getElem?_eq_some_iff.1 hx).1
  rw [Mf hm hk] at hl
  unfold b32 at hx
  rw [List.getElem?_take_of_lt hl,List.getElem?_drop] at hx
  have:=h3 _ u hx
  rw [show o+32*k*1+j=o+(32*k+j) by omega]
  exact this
theorem Jp (w:World) (g o D c:Nat) (m:List UInt8) (hm:m.length=32*D) (h1:1≤D) (hD:D≤1000000) (hc:32*D≤c) (hc2:c≤9223372036854775807) (hs:Sh.Src w (some ⟨g,o,none⟩) m):Calls Tryz.prog 151 #[.slice (some ⟨g,o,none⟩) (32*D) c] w (GetsN w (T4 (ND m D) (nmB m) D)):=by
 refine Sy.enterM (args:=[.slice (some ⟨g,o,none⟩) (32*D) c]) Tryz.func151 U kL<|sC<|sM 51 #[.slice none 0 0] (λg0=>?_)
 refine sM 4 #[.bool false] (λg1=>?_)
 refine sG<|sC<|sM 51 #[.slice none 0 0] (λg2=>?_)
 refine sG<|Sy.seq<|sC<|sP (.slice (some ⟨g,o,none⟩) (32*D) c)<|Sy.callN kR 207 #[.slice (some ⟨g,o,none⟩) (32*D) c,.int .i64 32] kF _ (λw _=>Li w _ _ _) (λv M hR0=>?_)
 obtain ⟨u1,u2,rfl,rfl⟩:=hR0
 refine sG<|Sy.block ?_
 have hg:g<w.heap.size:=(L4 hm h1 hs).1
 refine Sy.rangeY (α:=Fin D) (Y:=Slc) 243 #[pT u1 0,pT u2 0] kR kR (enters_of Tryz.func243 kR U) (PY g o (32*D)) [(u1,24,#[.slice (some ⟨g,o,none⟩) (32*D) c]),(u2,3,#[.int .i64 32])] (λys=>ys.map (·.1)=List.range D) (λpre=>∃ k,k≤D∧pre.map (·.1)=List.range k) D (λ_=>rfl) dZ
  (λpre y=>y.Is 42 4 (pre.map λx=>fws (nmB m x.val))∧pre.length≤D∧∀ x∈pre,nmB m x.val<Sc.pM)
  (λ_ y=>[(g0,51,#[.slice none 0 0]),(g1,4,#[.bool false]),(g2,51,#[y.v]),(u1,24,#[.slice (some ⟨g,o,none⟩) (32*D) c]),(u2,3,#[.int .i64 32])]++(y.bl++[]))
  (λ_ _=>[(g0,51,#[.slice none 0 0]),(g1,4,#[.bool false]),(u1,24,#[.slice (some ⟨g,o,none⟩) (32*D) c]),(u2,3,#[.int .i64 32])]++[])
  (λpre _=>∃ x∈pre, ¬ nmB m x.val<Sc.pM) nilS ⟨Slc.Is.nil _ _,Nat.zero_le _,λx hx=>by cases hx⟩ (λw hw=>hw) (λw hw=>?_) (λp hp pre y=>?_) (λx=>[(2,ptr g0),(3,ptr g1),(4,ptr g2),(5,PX g o (32*D) x.val)]) ?_ ?_ ?_ ?_
 ·exact ⟨w,Below.refl _ _,JM 8 u1 u2 _ g o (32*D) c D _ om hc om (λ_=>rfl) w (hw.get (i:=3) rfl) (hw.get (i:=4) rfl)⟩
 ·simp only [List.mem_cons,List.not_mem_nil,or_false] at hp
  rcases hp with rfl | rfl <;> simp
 ·intro l fz pre y x
  refine Sy.regionR (by rintro ⟨_,_,h⟩; exact h) kR ⟨_,rfl⟩<|sP (PX g o (32*D) x.val)<|Sy.nil ?_
  exact Sy.apY ac4 (λw hw=>hw)
 ·intro l fz pre y x hlen ⟨hy,hpl,hok⟩
  have hxN:=x.isLt
  have hz:szC (32*D) x.val=32:=by unfold szC; omega
  obtain ⟨bl,hbl⟩:=xE (b32 m x.val)
  have hl32:bl.length=32:=by rw [hbl]; exact Mf hm hxN
  obtain ⟨kx,hkx⟩:=xE ((Sc.readS bl).1)
  obtain ⟨b1,hb1⟩:=xE ((Sc.readS bl).2)
  refine Sy.block<|Sy.seq<|Sy.regionR (by rintro ⟨_,_,h⟩; exact h) kR ⟨_,rfl⟩<|sP (PX g o (32*D) x.val)<|sS (.pointer (some ⟨g,o+32*x.val*1,none⟩)) (Quiet.pure (λw=>Hg 22 _ _ (some ⟨g,o+32*x.val*1,none⟩) 32 (szC (32*D) x.val) (szC (32*D) x.val) rfl kR GZ (by rw [hz]; decide) w))<|sS (.agg (bl.map bv).toArray) (Quiet.there g (o+32*x.val*1) 32 22 (bl.map bv) _ _ rfl kR hg (by rw [hbl]; exact (L4 hm hxN hs).2) GZ rfl kR ((List.length_map ..).trans hl32) _ rfl)<|sS (.tuple #[fv kx,.bool b1]) (qF 208 #[.agg (bl.map bv).toArray] (λw=>by rw [hkx,hb1]; exact Sc.read_any w bl hl32))<|sP (.tuple #[fv kx,.bool b1])<|sP (fv kx)<|sP (.bool b1)<|sM 42 (fcs 0) (λg6=>?_)
  refine Sy.movT<|sW 5 g6 42 (fcs 0) (fcs kx) (wS 0 42 (fcs kx) rfl)<|Sy.setT<|sP (.bool b1)<|sG<|Sy.seq<|Sy.seq<|Sy.regionR (by rintro ⟨_,_,h⟩; exact h) kR ⟨_,rfl⟩<|sP (.bool b1) ?_
  cases b1
  ·have hno:¬ nmB m x.val<Sc.pM:=λh=>by
    unfold Sc.readS at hb1
    rw [show Ai bl=nmB m x.val from by rw [hbl]; rfl,if_pos h] at hb1
    cases hb1
   refine sP (.bool true)<|sG<|sT<|Sy.seq<|Sy.regionR (by rintro ⟨_,_,h⟩; exact h) kR ⟨_,rfl⟩<|sW 0 g0 51 #[.slice none 0 0] #[.slice none 0 0] (wO 0 51 (.slice none 0 0) rfl)<|Sy.setT<|sW 1 g1 4 #[.bool false] #[.bool false] (wO 0 4 (.bool false) rfl)<|Sy.setT<|sG<|Sy.ret<|Sy.then_ret<|Sy.in_ret ?_
   exact Sy.bpYR nilS ⟨x,List.mem_append.2 (.inr (List.mem_singleton.2 U)),hno⟩ (λw hw=>St.pick (T:=[]) [0,1,3,4] dZ kZ (St.less hw (List.Sublist.append (List.Sublist.refl _) (List.nil_sublist _))))
  ·obtain ⟨hlt,hkv⟩:nmB m x.val<Sc.pM∧kx=nmB m x.val:=by
    unfold Sc.readS at hb1 hkx
    rw [show Ai bl=nmB m x.val from by rw [hbl]; rfl] at hb1 hkx
    by_cases h:nmB m x.val<Sc.pM
    ·rw [if_pos h] at hkx; exact ⟨h,hkx⟩
    ·rw [if_neg h] at hb1; cases hb1
   refine sP (.bool false)<|sG<|sU<|Sy.skip<|Sy.then_<|Sy.regionR (by rintro ⟨_,_,h⟩; exact h) kR ⟨_,rfl⟩<|sS y.v (qC 2 g2 0 51 51 #[y.v] rfl B3)<|sS (fv kx) (qL 5 g6 0 4 42 42 (fcs kx) rfl Ak)<|Sy.make kR 42 (fcs kx) (λg=>.slice (pA g) 1 1) (λ_=>kR) (λg7=>?_)
   refine Sy.movT<|Sy.appendR kR 51 42 _ _ 4 32 B3 Du U U U U dZ _ _ U hy kR (fws kx) rfl (C2 _) 6 g7 42 kR kR (by rw [List.length_map]; omega) (by rw [List.length_map]; simp only [maxLen]; omega) (λr hr=>?_)
   refine sW 2 g2 51 #[y.v] #[r.v] (Writes.one 0 51 r.v _ _ U kR kR kR hr.cells.1 hr.cells.2 (Nat.lt_succ_self 0) rfl)<|Sy.setT<|Sy.nil<|Sy.in_ ?_
   exact Sy.bpY r ⟨by rw [List.map_append,List.map_singleton, ← hkv]; exact hr,by rw [List.length_append,List.length_singleton]; omega,λz hz=>(List.mem_append.1 hz).elim (hok z) (λh=>by rw [List.mem_singleton.1 h]; exact hlt)⟩ (λw hw=>St.pick [0,1,2,3,4] dZ kZ hw)
 ·intro D' fz xs y hS ⟨hy,hpl,hok⟩ hD' hm'
  have hS0:xs.map (·.1)=List.range D:=hS
  refine Sy.in_<|sB<|sS y.v (qC 2 g2 0 51 51 #[y.v] rfl B3)<|sW 0 g0 51 #[.slice none 0 0] #[y.v] (Writes.one 0 51 y.v _ _ U kR kR kR hy.cells.1 hy.cells.2 (Nat.lt_succ_self 0) rfl)<|Sy.setT<|sW 1 g1 4 #[.bool false] #[.bool true] (wO 0 4 (.bool true) rfl)<|Sy.setT<|sG<|Sy.ret ?_
  have hall:ND m D=true:=Qg λj hj=>by
   have:j∈xs.map (·.1):=by rw [hS0]; exact List.mem_range.2 hj
   obtain ⟨x,hx,rfl⟩:=List.mem_map.1 this
   exact hok x hx
  refine Sy.retMG2 y.bl U (Sy.hasC g0 0 #[y.v] B3) (Sy.hasC (v:=.bool true) g1 1 #[.bool true] uy4) (λw hw=>?_) (.inr ⟨hall,y,rfl,rfl,?_⟩) hD' hm'
  ·exact St.less hw (by rw [List.append_nil]; exact List.sublist_append_right _ _)
  ·rw [← hS0,List.map_map]; exact hy
 ·intro D' fz pre y hS ⟨x,hx,hno⟩ hD' hm'
  refine Sy.in_ret<|Sy.then_ret ?_
  exact Sy.retMG2 [] rfl (Sy.hasC g0 0 #[.slice none 0 0] B3) (Sy.hasC (v:=.bool false) g1 1 #[.bool false] uy4) (λw hw=>hw.none) (.inl ⟨SQ x.isLt hno,rfl,rfl⟩) hD' hm'
end Cu
end
section
namespace Cu
open Go.RowKit Sy
theorem Cd (E:Nat→Nat):∀ k,Aj E k=32*(1+A4 E k)
 | 0=>rfl
 | k+1=>by
  show Aj E k+E k*32=32*(1+(A4 E k+E k))
  rw [Cd E k]
  omega
def nmD (m:List UInt8) (E:Nat→Nat) (i j:Nat):Nat:=nmB m (1+A4 E i+j)
def JK (m:List UInt8) (E:Nat→Nat) (i:Nat):Bool:=(List.range (E i)).all λj=>decide (nmD m E i j<Sc.pM)
def IZ (m:List UInt8) (E:Nat→Nat) (N:Nat):Bool:=(List.range N).all (JK m E)
theorem Fv {m:List UInt8} {E:Nat→Nat} {N:Nat} (h:∀ i,i<N→JK m E i=true):IZ m E N=true:=List.all_eq_true.2 λi hi=>h i (List.mem_range.1 hi)
theorem KS {m:List UInt8} {E:Nat→Nat} {N i:Nat} (hi:i<N) (h:JK m E i=false):IZ m E N=false:=List.all_eq_false.2 ⟨i,List.mem_range.2 hi,by rw [h]; decide⟩
def Hi (m:List UInt8) (D:Nat→Int) (N:Nat):Bool:=szZ N D && (decide (m.length=Aj (λi=>(D i).toNat) N) && IZ m (λi=>(D i).toNat) N)
def DecR (b:Bool) (d:List UInt8) (f:Nat→Nat→Nat) (nk:Nat→Nat) (NR:Nat) (v:Value) (M:AC):Prop :=
 (b=false∧v=.tuple #[AX (List.replicate 32 0) none 0 0,.bool false]∧M=[])∨(b=true∧∃ u,v=.tuple #[u,.bool true]∧Ps d (λi j=>fws (f i j)) nk NR u M)
def Hy (m:List UInt8) (E:Nat→Nat) (k:Nat):List UInt8:=(m.drop (Aj E k)).take (32*E k)
theorem GL (E:Nat→Nat) {k N:Nat} (h:k<N):Aj E k+32*E k≤Aj E N:=by
 have h1:A4 E (k+1)≤A4 E N:=Cj E h
 rw [Cd,Cd]
 have h2:A4 E (k+1)=A4 E k+E k:=rfl
 omega
theorem KU {m:List UInt8} {E:Nat→Nat} {k N:Nat} (hm:m.length=Aj E N) (hk:k<N):(Hy m E k).length=32*E k:=by
 have:=GL E hk
 unfold Hy
 rw [List.length_take,List.length_drop]
 omega
theorem JL {m:List UInt8} {E:Nat→Nat} {k j:Nat} (hj:j<E k):nmB (Hy m E k) j=nmD m E k j:=by
 unfold nmD nmB b32 Hy
 rw [Cd,List.drop_take,List.take_take,List.drop_drop]
 congr 3
 ·omega
 ·omega
theorem MZ {m:List UInt8} {E:Nat→Nat} {k:Nat}:ND (Hy m E k) (E k)=JK m E k:=by
 unfold ND JK
 refine Bool.eq_iff_iff.2 ?_
 rw [List.all_eq_true,List.all_eq_true]
 exact ⟨λh x hx=>by have:=h x hx; rwa [JL (List.mem_range.1 hx)] at this,λh x hx=>by have:=h x hx; rwa [JL (List.mem_range.1 hx)]⟩
theorem QA {w:World} {g o N k:Nat} {m:List UInt8} {E:Nat→Nat} (hm:m.length=Aj E N) (hk:k<N) (hs:Sh.Src w (some ⟨g,o,none⟩) m):Sh.Src w (some ⟨g,o+Aj E k,none⟩) (Hy m E k):=λhne=>by
 have hl:=GL E hk
 obtain ⟨b,o',e,h2,h3⟩:=hs (λe=>by rw [e] at hm; have:=Cd E N; simp at hm; omega)
 cases e
 refine ⟨_,_,rfl,h2,λj u hj=>?_⟩
 have hjl:=(List.getElem?_eq_some_iff.1 hj).1
 rw [KU hm hk] at hjl
 unfold Hy at hj
 rw [List.getElem?_take_of_lt hjl,List.getElem?_drop] at hj
 rw [Nat.add_assoc]
 exact h3 _ u hj
section
variable {P:Program} {w0:Base} {F:AK} {L:AC} {o:Oper}
theorem Fs (t:TypeId) (x lx:Operand) (g f len cap lo s:Nat) (kl:IntKind) (ho:o.op=.slice t x (some lx) none none) (hx:evF F x=.slice (some ⟨g,f,none⟩) len cap) (hl:evF F lx=.int kl (lo:Int)) (ht:P.underlying t=some (.slice (P.elem t))) (hsz:∀ w,(sizeOf (P.elem t)).run P w=.ok s w) (h1:lo≤len) (w:World) :
  (execOp (evF F) o).run P w=.ok (.value (.slice (some ⟨g,if cap=lo then f else f+lo*s,none⟩) (len - lo) (cap - lo))) w:=by
 have e:(Instr.sliceAt t (.slice (some ⟨g,f,none⟩) len cap) (some (.int kl (lo:Int))) none none).run P w=.ok (.slice (some ⟨g,if cap=lo then f else f+lo*s,none⟩) (len - lo) (cap - lo)) w:=by
  rw [run_sliceAt_slice w t _ _ _ _ ht,run_slice_l w t (some ⟨g,f,none⟩) len cap ht kl lo om om]
  by_cases h:cap=lo <;> simp [hsz,sliced,h,BU,Result.andThen]
 unfold execOp
 simp only [ho,hx,hl,Option.map_some,Option.map_none,e,Sem.run_bind,Sem.run_pure,Result.andThen_ok]
theorem PD (t:TypeId) (x lx hx':Operand) (g f len cap lo hi s:Nat) (kl kh:IntKind) (ho:o.op=.slice t x (some lx) (some hx') none) (hx:evF F x=.slice (some ⟨g,f,none⟩) len cap) (hl:evF F lx=.int kl (lo:Int)) (hh:evF F hx'=.int kh (hi:Int)) (ht:P.underlying t=some (.slice (P.elem t))) (hsz:∀ w,(sizeOf (P.elem t)).run P w=.ok s w)
  (h1:lo≤hi) (h2:hi≤cap) (h3:lo<cap) (w:World):(execOp (evF F) o).run P w=.ok (.value (.slice (some ⟨g,f+lo*s,none⟩) (hi - lo) (cap - lo))) w:=by
 have hne:¬ cap=lo:=om
 have e:(Instr.sliceAt t (.slice (some ⟨g,f,none⟩) len cap) (some (.int kl (lo:Int))) (some (.int kh (hi:Int))) none).run P w=.ok (.slice (some ⟨g,f+lo*s,none⟩) (hi - lo) (cap - lo)) w:=by
  rw [run_sliceAt_slice w t _ _ _ _ ht,run_slice_lh w t (some ⟨g,f,none⟩) len cap ht kl kh lo hi om om om]
  simp [hsz,sliced,hne,BU,Result.andThen]
 unfold execOp
 simp only [ho,hx,hl,hh,Option.map_some,Option.map_none,e,Sem.run_bind,Sem.run_pure,Result.andThen_ok]
end
theorem N8 {w:World} {g o:Nat} {m:List UInt8} {k:Nat} (h:∀ j u,m[j]? = some u→w.cell? ⟨g,o+j,none⟩=some (bv u)):w.rangeAt g o ((m.take k).map bv):=λj v hj=>by
 rw [List.getElem?_map] at hj
 cases hx:(m.take k)[j]? with
 | none=>rw [hx] at hj; cases hj
 | some u =>
  rw [hx] at hj
  injection hj with hj
  rw [← hj]
  have hl:=(List.getElem?_eq_some_iff.1 hx).1
  rw [List.length_take] at hl
  rw [List.getElem?_take_of_lt om] at hx
  exact h j u hx
theorem Ld {place:Nat→Option (Nat×Nat)} {z c:List Value} {u:Value} {n:Nat} (hp:place 0=some (0,n)) (hc:c.length=n) (hz:z.length=n):Instr.fill place (z++[u]).toArray [(0,.agg c.toArray)]=some (c++[u]).toArray:=by
 unfold Instr.fill
 rw [hp]
 simp only [Value.cells,List.size_toArray,hc,Nat.zero_add,ne_eq,not_true_eq_false,decide_false,Bool.false_or]
 rw [if_neg (by simp [hz])]
 unfold Instr.fill
 have h1:c.toArray.zipIdx.foldl (λcs (x:Value×Nat)=>cs.setIfInBounds (0+x.2) x.1) (z++[u]).toArray=setAll (z++[u]).toArray (0+0) c:=by
  rw [← G' c 0 0, ← Array.foldl_toList,Array.toList_zipIdx]
 simp only [Nat.zero_add] at h1
 rw [h1]
 have h2:=Cl c 0 (z++[u]).toArray (by rw [List.size_toArray,List.length_append,hz,hc]; simp)
 rw [h2]
 simp only [List.take_zero,List.nil_append,Nat.zero_add]
 rw [List.drop_left' (by rw [hz,hc])]
theorem Quiet.build1F {P:Program} {w0:Base} {F:AK} {L:AC} {o:Oper} (t:TypeId) (fs:Array Field) (it:TypeInfo) (z c:List Value) (u:Value) (x:Operand) (n:Nat) (ho:o.op=.build t #[(0,x)]) (hx:evF F x=.agg c.toArray) (hu:P.underlying t=some (.struct fs)) (hit:P.info? t=some it) (hz:it.zero=some (.agg (z++[u]).toArray))
  (hpl:fs.toList.mapM (λf=>(P.info? f.type).map λi=>(f.offset,i.size))=some [(0,n),(n,1)]) (hc:c.length=n) (hzl:z.length=n):Quiet P w0 F L o (.agg (c++[u]).toArray):=Quiet.pure λw=>by
 have hb:P.built t #[(0,.agg c.toArray)].toList=some (c++[u]).toArray:=by
  unfold Program.built
  rw [hit,hu]
  simp only [hz,hpl]
  exact Ld U hc hzl
 have hr:=run_build (P:=P) w t #[(0,.agg c.toArray)] _ hb
 unfold execOp
 simp only [ho,Sem.run_bind,List.map_toArray,List.map_cons,List.map_nil,hx,hr,Result.andThen_ok,Sem.run_pure]
noncomputable def infRS:TypeInfo:=(Tryz.prog.info? 31).getD default
theorem Q3:Tryz.prog.info? 31=some infRS:=kZ
theorem Pu:infRS.zero=some (.agg (List.replicate 32 (Value.int .u8 0)++[Value.slice none 0 0]).toArray):=kZ
theorem Pe {w0:Base} {F:AK} {L:AC} {o:Oper} {x:Operand} (d:List UInt8) (hd:d.length=32) (ho:o.op=.build 31 #[(0,x)]) (hx:evF F x=.agg (d.map bv).toArray):Quiet Tryz.prog w0 F L o (AX d none 0 0) :=
 Quiet.build1F 31 _ infRS _ _ _ x 32 ho hx C8 Q3 Pu kZ ((List.length_map ..).trans hd) List.length_replicate
theorem PR (w:World) (A:Option Addr) (m:List UInt8) (n c:Nat) (hm:m.length=n) (hc:n≤c) (hc2:c≤9223372036854775807) (hs:Sh.Src w A m) (Z:Option Addr) (N zc:Nat) (D:Nat→Int) (hN:N≤4611686018427387904) (hlz:Lst w 1 Z N (λk=>[.int .i64 (D k)])) :
  Calls Tryz.prog 88 #[.slice A n c,.slice Z N zc] w (GetsN w (DecR (Hi m D N) (m.take 32) (nmD m λi=>(D i).toNat) (λi=>(D i).toNat) N)):=by
 have hlz0:=hlz
 obtain ⟨E,hE⟩:∃ E:Nat→Nat,E=λi=>(D i).toNat:=⟨_,rfl⟩
 rw [show Hi m D N=(szZ N D && (decide (m.length=Aj E N) && IZ m E N)) by rw [hE]; rfl, ← hE]
 refine Sy.enter (args:=[.slice A n c,.slice Z N zc]) Tryz.func88 U kL<|sC<|sM 31 (AM (List.replicate 32 0) none 0 0).toArray (λg0=>?_)
 refine sP (.bool false)<|sG<|Sy.seq<|sC ?_
 obtain ⟨b1,hb1⟩:=xE (szZ N D)
 refine sP (.slice Z N zc)<|sS (.bool b1) (qG 90 #[.slice Z N zc] (λw hw=>by rw [hb1]; exact JQ w Z N zc D hN (hlz0.below hw.below))) ?_
 cases b1
 ·rw [← hb1,Bool.false_and]
  refine sP (.bool true)<|sP (.bool true)<|sN<|sN<|sN<|sN<|sN<|sP (.bool true)<|sG<|sT<|sC<|sP (AX (List.replicate 32 (0:UInt8)) none 0 0)<|sW 0 g0 31 zS33.toArray zS33.toArray (Writes.row 31 zS33 33 _ _ U kR kR kR (Ag List.length_replicate) (by rw [List.size_toArray,Ag List.length_replicate]) BV)<|sP (.bool false)<|sG<|Sy.ret<|Sy.then_ret ?_
  exact BJ [] rfl (v:=AX (List.replicate 32 (0:UInt8)) none 0 0) (u:=.bool false) (.inl (Res.cell (ty':=31) g0 0 zS33.toArray _ kR kR C8 U (by rw [List.size_toArray,Ag List.length_replicate]; kernel_rfl) rfl)) (.inl (show _=_ by kernel_rfl)) (λ_ hw=>hw.none) (.inl ⟨rfl,rfl,rfl⟩)
 ·have hsz:=(EJ N D).1 hb1.symm
  have hDE:∀ i,i<N→D i=((E i:Nat):Int)∧1≤E i∧E i≤64:=λi hi=>by
   have:=hsz.2.2 i hi
   rw [hE]
   show D i=(((D i).toNat:Nat):Int)∧1≤(D i).toNat∧(D i).toNat≤64
   omega
  have hlzE:Lst w 1 Z N (λk=>[iZ (E k)]):=GT hlz0 (λi hi=>by rw [(hDE i hi).1])
  obtain ⟨tl,htl⟩:=xE (Aj E N)
  obtain ⟨b2,hb2⟩:=xE (decide (n≠tl))
  refine sP (.bool false)<|sP (.bool false)<|sP (.slice A n c)<|sP (iZ n)<|sP (.slice Z N zc)<|sS (iZ tl) (qG 150 #[.slice Z N zc] (λw hw=>by rw [htl]; exact LU w Z N zc E om (λi hi=>(hDE i hi).2.2) (hlzE.below hw.below))) <|
   sS (.bool b2) (qne U U U hb2)<|sP (.bool b2) ?_
  refine sG ?_
  cases b2
  ·have hn:n=tl:=Decidable.of_not_not (of_decide_eq_false hb2.symm)
   have hml:m.length=Aj E N:=by rw [hm,hn,htl]
   have hP:∀ k,k<N→Aj E k+32*E k≤n:=λk hk=>by rw [hn,htl]; exact GL E hk
   have hL32:∀ k,32≤Aj E k:=λk=>by rw [Cd]; omega
   obtain ⟨gz,oz,hZ⟩:=hlzE
   have h0N:0<N:=om
   have hne:m≠[]:=λe=>by
    have h1:=hP 0 h0N
    have h2:=hL32 0
    rw [e] at hm
    have:n=0:=hm.symm
    omega
   have hA:=hs hne
   obtain ⟨g,o,rfl,hg,hcl⟩:=hA
   obtain ⟨d,hd⟩:=xE (m.take 32)
   have hn32:32≤n:=by have:=hP 0 h0N; have:=hL32 0; omega
   have hdl:d.length=32:=by rw [hd,List.length_take]; omega
   refine sU<|Sy.skip<|Sy.then_<|sC<|sP (.slice (some ⟨g,o,none⟩) n c)<|sS (.slice (some ⟨g,o,none⟩) 32 c) (Quiet.pure (EY _ _ _ g o n c 32 1 .i64 U U U CI kF om)) <|
    sS (pT g o) (Quiet.pure (λw=>Hg 23 _ _ (some ⟨g,o,none⟩) 32 32 c U kR D6 dZ w)) <|
    sS (.agg (d.map bv).toArray) (Quiet.there g o 32 23 (d.map bv) _ _ U kR hg (by rw [hd]; exact N8 hcl) D6 U kR ((List.length_map ..).trans hdl) _ U) ?_
   refine sS (AX d none 0 0) (Pe d hdl U U)<|sM 31 zS33.toArray (λg1=>?_)
   refine sW 1 g1 31 zS33.toArray (sgx d (.slice none 0 0)).toArray (Writes.row 31 (sgx d (.slice none 0 0)) 33 _ _ U kR kR kR (GG hdl) (by rw [List.size_toArray,Ag List.length_replicate]) BV)<|sA ?_
   have hE0:=(hDE 0 h0N).2.1
   have hP0:=hP 0 h0N
   have hL0:Aj E 0=32:=rfl
   refine sP (.slice (some ⟨g,o,none⟩) n c)<|sS (.slice (some ⟨g,o+Aj E 0,none⟩) (n - Aj E 0) (c - Aj E 0)) (Quiet.pure (Hd _ _ _ g o n c 32 1 .i64 U U U CI kF om om))<|sP (.slice (some ⟨g,o+Aj E 0,none⟩) (n - Aj E 0) (c - Aj E 0))<|sG<|Sy.seq<|sC<|sP (.slice Z N zc)<|sP (iZ N)<|sP (.int .i64 0)<|sG<|Sy.block<|Sy.loopT (Y:=(Nat→Slc)×Slc×Value) N (λk1 y1=>[(0,y1.2.2),(4,ptr g0),(6,ptr g1),(29,.slice Z N zc),(30,iZ N),(31,iZ k1)]) (λk1 y1=>[(g0,31,zS33.toArray),(g1,31,(sgx d y1.2.1.v).toArray)]++(Av y1.1 N++(y1.2.1.bl++[])))
    (λk1 y1=>RowsAre y1.1 42 4 (λi j=>fws (nmD m E i j)) (Bw E k1 0)∧y1.2.1.Is 51 1 ((List.range k1).map λi=>[(y1.1 i).v])∧(∀ i,k1≤i→y1.1 i=nilS)∧(k1<N→y1.2.2=.slice (some ⟨g,o+Aj E k1,none⟩) (n - Aj E k1) (c - Aj E k1))∧∀ i,i<k1→JK m E i=true)
    (λ_=>nilS,nilS,.slice (some ⟨g,o+Aj E 0,none⟩) (n - Aj E 0) (c - Aj E 0)) ⟨(RowsAre.nil _ _ _).cnt (Ea E),Slc.Is.nil _ _,λ_ _=>rfl,λ_=>rfl,λi hi=>absurd hi (Nat.not_lt_zero _)⟩
    ac6 (λw hw=>by rw [EN]; exact hw) (λk1 y1 hk1 hh1=>?_)
   obtain ⟨q1,O1,v1⟩:=y1
   dsimp only at hh1 ⊢
   obtain ⟨hr1,hO1,hn1,hv1,hk1ok⟩:=hh1
   refine sC ?_
   obtain ⟨b3,hb3⟩:=xE (decide (k1<N))
   refine sS (.bool b3) (qls U U U hb3)<|sG<|Sy.seq ?_
   cases b3
   ·have lb3:=dN hb3
    obtain rfl:N=k1:=om
    obtain ⟨gO,cO,spO,hOv,hOb,hO2,hcO,hO3⟩:=hO1.open h0N
    obtain ⟨ov,ob⟩:=O1
    obtain rfl:ov=_:=hOv
    obtain rfl:ob=_:=hOb
    refine sU<|Sy.exit<|Sy.then_exit<|Sy.then_exit<|Sy.in_exit<|sB<|sS (AX d (pA gO) N cO) (Quiet.load 1 g1 0 33 31 31 (AM d (pA gO) N cO).toArray _ _ U kR kR C8 U kR _ (C_ hdl) (Ek hdl))<|sW 0 g0 31 zS33.toArray (AM d (pA gO) N cO).toArray (Writes.row 31 (AM d (pA gO) N cO) 33 _ _ U kR kR kR (Ag hdl) (by rw [List.size_toArray,Ag List.length_replicate]) BV)<|Sy.setT<|sP (.bool true)<|sG<|Sy.ret ?_
    exact BJ ((gO,51,(AO (λj=>[(q1 j).v]) N++spO).toArray)::Av q1 N) rfl (v:=AX d (pA gO) N cO) (u:=.bool true) (.inl (Res.cell (ty':=31) g0 0 (AM d (pA gO) N cO).toArray _ kR kR C8 U (by rw [List.size_toArray,Ag hdl]; kernel_rfl) rfl)) (.inl (show _=_ by kernel_rfl))
     (λw hw=>St.parts (ls:=[[(g0,31,(AM d (pA gO) N cO).toArray)],[(g1,31,(AM d (pA gO) N cO).toArray)],Av q1 N,[(gO,51,(AO (λj=>[(q1 j).v]) N++spO).toArray)]]) (ms:=[[(gO,51,(AO (λj=>[(q1 j).v]) N++spO).toArray)],Av q1 N]) [[(g0,31,(AM d (pA gO) N cO).toArray)],[(g1,31,(AM d (pA gO) N cO).toArray)]] [3,2,0,1] kR (by rfl) (by rfl) (by simp) hw)
     (.inr ⟨by rw [← hb1,decide_eq_true hml,Fv hk1ok]; rfl,_,rfl,gO,cO,spO,q1,by rw [← hd],hcO,rfl,hr1⟩)
   ·have lb3:=dY hb3
    obtain rfl:v1=_:=hv1 lb3
    have hEk:=hDE k1 lb3
    have hPk:=hP k1 lb3
    have hLk:=hL32 k1
    refine sT<|Sy.skip<|Sy.then_<|Sy.seq<|Sy.block<|sC<|sS (.pointer (some ⟨gz,oz+k1*1,none⟩)) (Quiet.pure (AJ 131 _ _ _ Z gz oz N zc k1 1 .i64 (hZ om).1 U U U C9 kF om))<|sS (iZ (E k1)) (Quiet.thereOne gz (oz+k1*1) 3 _ _ U kR (hZ om).2.1 _ (AR ((hZ om).2.2 k1 om) 0 U) uy3 U)<|sP (iZ (E k1))<|sA<|sP (.slice (some ⟨g,o+Aj E k1,none⟩) (n - Aj E k1) (c - Aj E k1))<|sP (iZ (E k1))<|sS (iZ (32*E k1)) (qml U U U) <|
     sS (.slice (some ⟨g,o+Aj E k1,none⟩) (32*E k1) (c - Aj E k1)) (Quiet.pure (EY _ _ _ g (o+Aj E k1) (n - Aj E k1) (c - Aj E k1) (32*E k1) 1 .i64 U U U CI kF om)) ?_
    refine Sy.callN kR 151 #[.slice (some ⟨g,o+Aj E k1,none⟩) (32*E k1) (c - Aj E k1)] kF _ (λw hw=>Jp w g (o+Aj E k1) (E k1) (c - Aj E k1) (Hy m E k1) (KU hml lb3) hEk.2.1 om om om ((QA hml lb3 hs).below hw.below)) (λv M hR0=>?_)
    rcases hR0 with ⟨hb,rfl,rfl⟩ | ⟨hb,r,rfl,rfl,hr⟩
    ·rw [List.append_nil]
     have hno:IZ m E N=false:=KS lb3 (by rw [← MZ]; exact hb)
     rw [hno,Bool.and_false,Bool.and_false]
     refine sP (.tuple #[.slice none 0 0,.bool false])<|sP (.slice none 0 0)<|sP (.bool false)<|sP (.slice none 0 0)<|sP (.bool false)<|sG<|Sy.seq<|sC<|sP (.bool false)<|sP (.bool true)<|sG<|sT<|sC<|sP (AX (List.replicate 32 (0:UInt8)) none 0 0)<|sW 0 g0 31 zS33.toArray zS33.toArray (Writes.row 31 zS33 33 _ _ U kR kR kR (Ag List.length_replicate) (by rw [List.size_toArray,Ag List.length_replicate]) BV)<|Sy.setT<|sP (.bool false)<|sG<|Sy.ret ?_
     repeat' first | refine Sy.then_ret ?_ | refine Sy.in_ret ?_
     exact BJ [] rfl (v:=AX (List.replicate 32 (0:UInt8)) none 0 0) (u:=.bool false) (.inl (Res.cell (ty':=31) g0 0 zS33.toArray _ kR kR C8 U (by rw [List.size_toArray,Ag List.length_replicate]; kernel_rfl) rfl)) (.inl (show _=_ by kernel_rfl)) (λ_ hw=>hw.none) (.inl ⟨rfl,rfl,rfl⟩)
    ·obtain ⟨gk,ck,sp,hkv,hkb,hk1s,hk2s,hk3s⟩:=hr.open om
     obtain ⟨rv,rb⟩:=r
     obtain rfl:rv=_:=hkv
     obtain rfl:rb=_:=hkb
     obtain ⟨bk,hbk⟩:∃ b:Nat×TypeId×Array Value,b=(gk,42,(AO (λj=>fws (nmB (Hy m E k1) j)) (E k1)++sp).toArray):=⟨_,rfl⟩
     refine sP (.tuple #[.slice (pA gk) (E k1) ck,.bool true])<|sP (.slice (pA gk) (E k1) ck)<|sP (.bool true)<|sP (.slice (pA gk) (E k1) ck)<|sP (.bool true)<|sG<|Sy.seq<|sC<|sP (.bool true)<|sP (.bool false)<|sG<|sU<|Sy.skip<|sB ?_
     rw [← hbk] at hr ⊢
     refine Sy.permS (M:=[(g0,31,zS33.toArray),(g1,31,(sgx d O1.v).toArray)]++(O1.bl++([bk]++(Av q1 N++[])))) (Sy.flat_perm (ls:=[[(g0,31,zS33.toArray),(g1,31,(sgx d O1.v).toArray)],Av q1 N,O1.bl,[bk]]) (ms:=[[(g0,31,zS33.toArray),(g1,31,(sgx d O1.v).toArray)],O1.bl,[bk],Av q1 N]) [0,2,3,1] kZ (by rfl) (by simp) (by simp))<|sP (pT g1 32)<|sS O1.v (Quiet.cell 1 g1 32 31 29 (sgx d O1.v).toArray _ _ U kR kR B4 U _ (OD hdl))<|sP (.slice (pA gk) (E k1) ck)<|Sy.make kR 51 #[.slice (pA gk) (E k1) ck] (λg=>.slice (pA g) 1 1) (λ_=>kR) (λg7=>?_)
     refine Sy.movT<|Sy.appendR kR 29 51 _ _ 1 24 B4 FD U U U U dZ _ _ U hO1 kR [.slice (pA gk) (E k1) ck] rfl (Er _ _ _) 2 g7 51 kR kR (by rw [List.length_map,List.length_range]; omega) (by rw [List.length_map,List.length_range]; simp only [maxLen]; omega) (λr1 hr1'=>?_)
     refine sP (pT g1 32)<|sW 1 g1 31 (sgx d O1.v).toArray (sgx d r1.v).toArray (Writes.one 32 29 r1.v _ _ U kR kR kR hr1'.cells.1 hr1'.cells.2 (OC hdl) (L6 hdl))<|Sy.setT<|sG<|Sy.region ?_
     obtain ⟨v2,hv2⟩:=xE (Value.slice (some ⟨g,if c - Aj E k1=32*E k1 then o+Aj E k1 else o+Aj E k1+32*E k1*1,none⟩) (n - Aj E k1 - 32*E k1) (c - Aj E k1 - 32*E k1))
     refine sP (.slice (some ⟨g,o+Aj E k1,none⟩) (n - Aj E k1) (c - Aj E k1))<|sP (iZ (E k1))<|sS (iZ (32*E k1)) (qml U U U) <|
      sS v2 (Quiet.pure (λw=>by rw [hv2]; exact Fs _ _ _ g (o+Aj E k1) (n - Aj E k1) (c - Aj E k1) (32*E k1) 1 .i64 U U U CI kF om w))<|sP v2 ?_
     refine Sy.nil<|Sy.in_<|Sy.then_<|Sy.region<|sS (iZ (k1+1)) (qad U U U)<|sP (iZ (k1+1))<|Sy.nil ?_
     have hrD:(List.range (E k1)).map (λj=>fws (nmB (Hy m E k1) j))=(List.range (E k1)).map (λj=>fws (nmD m E k1 j)):=List.map_congr_left λj hj=>by rw [JL (List.mem_range.1 hj)]
     rw [hrD] at hr
     have eL:Aj E (k1+1)=Aj E k1+E k1*32:=rfl
     exact Sy.againT (CO q1 k1 ⟨.slice (pA gk) (E k1) ck,[bk]⟩,r1,v2) om
      ⟨RowsAre.full hr1 hr,by rw [List.range_succ,List.map_append,J_]; show Slc.Is _ _ _ (_++[[(CO q1 k1 _ k1).v]]); rw [Cm]; exact hr1',λi hi=>by show CO _ _ _ i=nilS; rw [DO om]; exact hn1 i om,
       λhlt=>by
        have h1:=hP (k1+1) hlt
        have h2:=(hDE (k1+1) hlt).2.1
        rw [hv2,if_neg om,eL,show o+Aj E k1+32*E k1*1=o+(Aj E k1+E k1*32) by omega,show n - Aj E k1 - 32*E k1=n - (Aj E k1+E k1*32) by omega,show c - Aj E k1 - 32*E k1=c - (Aj E k1+E k1*32) by omega],
       λi hi=>(Nat.lt_succ_iff_lt_or_eq.1 hi).elim (hk1ok i) (λh=>by rw [h, ← MZ]; exact hb)⟩
      ac6
      (λw hw=>by
       have q:=St.row_in (i:=k1) (v:=.slice (pA gk) (E k1) ck) (M:=[(g0,31,zS33.toArray),(g1,31,(sgx d r1.v).toArray)]) (b:=bk) (n:=N) (r:=q1) (R:=r1.bl++[]) lb3 (hn1 k1 (Nat.le_refl _)) (St.parts (ls:=[[(g0,31,zS33.toArray)],[(g1,31,(sgx d r1.v).toArray)],[(g7,51,#[.slice (pA gk) (E k1) ck])],r1.bl,[bk],Av q1 N]) (ms:=[[(g0,31,zS33.toArray)],[(g1,31,(sgx d r1.v).toArray)],[bk],Av q1 N,r1.bl]) [[(g7,51,#[.slice (pA gk) (E k1) ck])]] [0,1,4,5,3,2] kR (by rfl) (by simp) (by simp) hw)
       exact q)
  ·have hn:=dY hb2
   rw [show decide (m.length=Aj E N)=false from decide_eq_false (by rw [hm, ← htl]; exact hn),Bool.false_and,Bool.and_false]
   refine sT<|sC<|sP (AX (List.replicate 32 (0:UInt8)) none 0 0)<|sW 0 g0 31 zS33.toArray zS33.toArray (Writes.row 31 zS33 33 _ _ U kR kR kR (Ag List.length_replicate) (by rw [List.size_toArray,Ag List.length_replicate]) BV)<|sP (.bool false)<|sG<|Sy.ret<|Sy.then_ret ?_
   exact BJ [] rfl (v:=AX (List.replicate 32 (0:UInt8)) none 0 0) (u:=.bool false) (.inl (Res.cell (ty':=31) g0 0 zS33.toArray _ kR kR C8 U (by rw [List.size_toArray,Ag List.length_replicate]; kernel_rfl) rfl)) (.inl (show _=_ by kernel_rfl)) (λ_ hw=>hw.none) (.inl ⟨rfl,rfl,rfl⟩)
end Cu
end
section
namespace Cu
open Go.RowKit Sy
theorem En (f:Nat→Nat):∀ (T:Nat) {q:Nat},q<T→((DN f T).drop (32*q)).take 32=AY (f q%Sc.pM)
 | 0,q,h=>absurd h (Nat.not_lt_zero _)
 | T+1,q,h=>by
  show ((DN f T++AY (f T%Sc.pM)).drop (32*q)).take 32=_
  have hl:=D8 f T
  rcases Nat.lt_succ_iff_lt_or_eq.1 h with hq | hq
  ·rw [List.drop_append_of_le_length om,List.take_append_of_le_length (by rw [List.length_drop]; omega)]
   exact En f T hq
  ·rw [hq,List.drop_left' hl,List.take_of_length_le (by rw [AQ]; exact Nat.le_refl _)]
theorem N5 (sn:Nat→Nat) {N i j:Nat} (hi:i<N) (hj:j<sn i):A4 sn i+j<A4 sn N:=by
 have h1:A4 sn (i+1)≤A4 sn N:=Cj sn hi
 have h2:A4 sn (i+1)=A4 sn i+sn i:=rfl
 omega
theorem Pa (s:Nat→Nat→Nat) (sn:Nat→Nat):∀ (N:Nat) {i j:Nat},i<N→j<sn i→atL (D0 s sn N) (A4 sn i+j)=s i j
 | 0,i,j,hi,_=>absurd hi (Nat.not_lt_zero _)
 | k+1,i,j,hi,hj=>by
  show atL (D0 s sn k++(List.range (sn k)).map (s k)) _=_
  have hl:=Dj s sn k
  rcases Nat.lt_succ_iff_lt_or_eq.1 hi with h | h
  ·rw [Km (by rw [hl]; exact N5 sn h hj)]
   exact Pa s sn k h hj
  ·subst h
   rw [← hl,Ib,Ic hj]
theorem Em (s:Nat→Nat→Nat) (sn:Nat→Nat) (N:Nat):(Ef s sn N).length=32*A4 sn N:=by rw [← E3,D8]
theorem PI {d:List UInt8} {s:Nat→Nat→Nat} {sn:Nat→Nat} {N i j:Nat} (hd:d.length=32) (hi:i<N) (hj:j<sn i):nmD (d++Ef s sn N) sn i j=s i j%Sc.pM:=by
 have hq:=N5 sn hi hj
 unfold nmD nmB b32
 rw [show 32*(1+A4 sn i+j)=32+32*(A4 sn i+j) by omega, ← List.drop_drop,List.drop_left' hd, ← E3,En _ _ hq,Pa s sn N hi hj,Jd _ (Sc.mod_lt _)]
theorem RE {d:List UInt8} {s:Nat→Nat→Nat} {sn:Nat→Nat} {N:Nat} (hd:d.length=32) (h1:1≤N) (h2:N≤32) (h3:∀ i,i<N→1≤sn i∧sn i≤64):Hi (d++Ef s sn N) (λi=>((sn i:Nat):Int)) N=true:=by
 have hE:(λi=>(((sn i:Nat):Int)).toNat)=sn:=funext λi=>Int.toNat_natCast _
 unfold Hi
 rw [hE,(EJ N _).2 ⟨h1,h2,λi hi=>by have:=h3 i hi; omega⟩,decide_eq_true (by rw [List.length_append,hd,Em,Cd]; omega),Fv λi hi=>List.all_eq_true.2 λj hj=>decide_eq_true (by rw [PI hd hi (List.mem_range.1 hj)]; exact Nat.mod_lt _ dZ)]
 rfl
theorem IY {m:List UInt8} {D:Nat→Int} {N:Nat} (h:Hi m D N=true):1≤N∧N≤32∧32≤m.length∧∀ i,i<N→1≤(D i).toNat∧(D i).toNat≤64:=by
 unfold Hi at h
 rw [Bool.and_eq_true,Bool.and_eq_true] at h
 have hl:m.length=Aj _ N:=of_decide_eq_true h.2.1
 rw [Cd] at hl
 have hz:=(EJ N D).1 h.1
 exact ⟨hz.1,hz.2.1,by omega,λi hi=>by have:=hz.2.2 i hi; omega⟩
end Cu
end
section
namespace Cu
open Go.RowKit Sy
theorem JW {P:Program} {w0:Base} {F:AK} {L:AC} {o:Oper} {v:Value} (h:∀ w,St w0 w L→(execOp (evF F) o).run P w=.ok (.value v) w):Quiet P w0 F L o v:=λw hw=>by
 unfold Gives; rw [h w hw]; exact ⟨rfl,Gr.refl _⟩
theorem P9 {w:World} {A:Option Addr} {m:List UInt8} {c:Nat} (h:Sh.Src w A m):(convert 24 9 (.slice A m.length c)).run Tryz.prog w=.ok (.string ⟨m.toArray⟩) w:=by
 rcases m with _ | ⟨x,m⟩
 ·cases A with
  | none =>
   rw [show ([]:List UInt8).length=0 from rfl,run_convert_bytes_string w 24 9 5 none 0 c CI uy5 uy9]
   rfl
  | some a=>exact run_convert_bytes_back w 24 9 5 a c [] CI uy5 uy9 (λj hj=>absurd hj (Nat.not_lt_zero _))
 ·obtain ⟨b,o,rfl,_,hc⟩:=h (by simp)
  refine run_convert_bytes_back w 24 9 5 _ c _ CI uy5 uy9 (λj hj=>?_)
  rw [BU]
  exact hc j _ (List.getElem?_eq_getElem hj)
theorem TH {w0:Base} {F:AK} {L:AC} {o:Oper} (A:Option Addr) (m:List UInt8) (k c:Nat) (x:Operand) (ho:o.op=.convert 24 9 x) (hx:evF F x=.slice A k c) (hm:m.length=k) (hs:∀ w,St w0 w L→Sh.Src w A m):Quiet Tryz.prog w0 F L o (.string ⟨m.toArray⟩):=JW λw hw=>by
 have h:=P9 (c:=c) (hs w hw)
 rw [hm] at h
 unfold execOp
 simp only [ho,hx,Sem.run_bind,h,Result.andThen_ok,Sem.run_pure]
theorem PF (w:World) (F:AK) (o:Oper) (x y:Operand) (a b:List UInt8) {yt:TypeId} (ho:o.op=.binOp .eql 9 x y yt) (hx:evF F x=.string ⟨a.toArray⟩) (hy:evF F y=.string ⟨b.toArray⟩):(execOp (evF F) o).run Tryz.prog w=.ok (.value (.bool (decide (a=b)))) w:=by
 have h1:(eqGuard .eql 9 x y (.string ⟨a.toArray⟩) (.string ⟨b.toArray⟩)).run Tryz.prog w=.ok () w:=by go_simp
 have h2:(binOp .eql 9 (.string ⟨a.toArray⟩) (.string ⟨b.toArray⟩)).run Tryz.prog w=.ok (.bool (decide (a=b))) w:=by
  by_cases e:a=b <;> simp [go_sem,ByteArray.toList_eq,e]
 unfold execOp
 simp only [ho,hx,hy,Sem.run_bind,h1,h2,Result.andThen_ok,Sem.run_pure]
theorem O_ {w0:Base} {L:AC} {A:Option Addr} {m:List UInt8} (h:Sh.Src w0.world A m):From w0 L A (m.map bv):=λw hw=>by
 rcases m with _ | ⟨x,m⟩
 ·exact .inl U
 ·obtain ⟨b,o,rfl,_,hc⟩:=(h.below hw.below) (by simp)
  refine .inr ⟨_,rfl,λj u hj=>?_⟩
  rw [BU]
  rw [List.getElem?_map] at hj
  cases hx:(x::m)[j]? with
  | none=>rw [hx] at hj; cases hj
  | some y =>
   rw [hx] at hj
   cases hj
   exact hc j y hx
end Cu
end
section
namespace Cu
open Go.RowKit Sy
def RwU (w0:Base) (W:Option Addr) (N:Nat) (nk:Nat→Nat) (s:Nat→Nat→Nat) (sa:Nat→Option Addr) (sc:Nat→Nat) (M:AC):Prop:=(∀ i,i<N→nk i≤sc i)∧∀ (w:World) (L:AC),St w0 w L→(∀ b∈M,b∈L)→Lst w 1 W N (λi=>[.slice (sa i) (nk i) (sc i)])∧∀ i,i<N→Lst w 4 (sa i) (nk i) (λk=>fws (s i k))
theorem RwU.zero (w0:Base) (nk:Nat→Nat) (s:Nat→Nat→Nat) (sa:Nat→Option Addr) (sc:Nat→Nat):RwU w0 none 0 nk s sa sc []:=⟨λi hi=>absurd hi (Nat.not_lt_zero _),λ_ _ _ _=>⟨⟨0,0,λh=>absurd h (Nat.lt_irrefl _)⟩,λi hi=>absurd hi (Nat.not_lt_zero _)⟩⟩
theorem RwU.rows {w0:Base} {NR g:Nat} {nk:Nat→Nat} {s:Nat→Nat→Nat} {r:Nat→Slc} {sp:List Value} {M:AC} (hr:RowsAre r 42 4 (λi j=>fws (s i j)) (Bw nk NR 0)) (hM:M=(g,51,(AO (λj=>[(r j).v]) NR++sp).toArray)::Av r NR):∃ sa sc,RwU w0 (pA g) NR nk s sa sc M:=by
 have hv:∀ i,i<NR→(r i).v=.slice (slA (r i).v) (nk i) (slC (r i).v)∧nk i≤slC (r i).v:=λi hi=>by
  obtain ⟨A,k,h1,h2,_⟩:=hr.lst (Di hi) hi
  rw [h1]
  exact ⟨rfl,h2⟩
 refine ⟨λi=>slA (r i).v,λi=>slC (r i).v,λi hi=>(hv i hi).2,λw L hw hb=>⟨?_,λi hi=>?_⟩⟩
 ·exact GT (Iy (f:=λj=>[(r j).v]) (λ_=>rfl) hw (hb _ (by rw [hM]; exact List.mem_cons_self ..))) (λi hi=>by rw [← (hv i hi).1])
 ·obtain ⟨A,k,h1,_,_,h2⟩:=hr.lst (Di hi) hi
  have h3:=h2 hw (λb h=>hb b (by rw [hM]; exact List.mem_cons_of_mem _ h))
  show Lst w 4 (slA (r i).v) _ _
  rw [h1]
  exact h3
def CX (w0:Base) (d:List UInt8) (N:Nat) (nk:Nat→Nat) (s:Nat→Nat→Nat) (u:Value) (v:Value) (M:AC):Prop:=∃ (W:Option Addr) (c:Nat) (sa:Nat→Option Addr) (sc:Nat→Nat),v=.tuple #[AX d W N c,u]∧RwU w0 W N nk s sa sc M
theorem DecR.uniC {w0:Base} {b:Bool} {d:List UInt8} {s:Nat→Nat→Nat} {nk:Nat→Nat} {NR:Nat} {v:Value} {M:AC} (h:DecR b d s nk NR v M):CX w0 (uD true b d) (uN true b NR) nk s (.bool b) v M:=by
 rcases h with ⟨rfl,rfl,rfl⟩ | ⟨rfl,u,rfl,g,cap,sp,r,rfl,_,rfl,hr⟩
 ·exact ⟨none,0,λ_=>none,λ_=>0,rfl,RwU.zero ..⟩
 ·obtain ⟨sa,sc,h⟩:=RwU.rows (w0:=w0) hr U
  exact ⟨_,cap,sa,sc,rfl,h⟩
theorem SgnR.uniC {w0:Base} {br bf:Bool} {d:List UInt8} {s:Nat→Nat→Nat} {nk:Nat→Nat} {NR:Nat} {v:Value} {M:AC} (h:SgnR br bf d (λi j=>fws (s i j)) nk NR v M):CX w0 (uD br bf d) (uN br bf NR) nk s (.int .i64 (uE br bf)) v M:=by
 rcases h with ⟨rfl,rfl,rfl⟩ | ⟨rfl,rfl,rfl,rfl⟩ | ⟨rfl,rfl,u,rfl,g,r,rfl,rfl,hr⟩
 ·exact ⟨none,0,λ_=>none,λ_=>0,rfl,RwU.zero ..⟩
 ·exact ⟨none,0,λ_=>none,λ_=>0,rfl,RwU.zero ..⟩
 ·obtain ⟨sa,sc,h⟩:=RwU.rows (w0:=w0) (sp:=[]) hr (by rw [List.append_nil])
  exact ⟨_,NR,sa,sc,rfl,h⟩
theorem Ty (m:List UInt8) (k:Nat):nmB m k<K4:=by
 unfold nmB
 refine Nat.lt_of_lt_of_le (Ex _ _ U) (Nat.le_trans (Nat.pow_le_pow_right dZ (show (b32 m k).length≤32 by unfold b32; rw [List.length_take]; omega)) (show 256 ^ 32≤K4 by decide +kernel))
end Cu
end
section
namespace Cu
open Go.RowKit Sy
theorem DG {P:Program} {w0:Base} {n:Nat} {Q:Exit→Act→World→Prop} {F:AK} {L:AC} {ops:Array Oper} {ex:Nat→Bool} {fuel:Nat} {listed:Array Bool} {T:Type} {FF:T→AK} {LL:T→AC} {H:T→Prop} {li:Array Bool} (h:∀ x,H x→wpD P w0 n ops Q ex (FF x) (LL x) fuel li) (x:T) (hx:H x) (hl:listed=li) (hF:∀ p∈FF x,F.lookup p.1=some p.2) (p:L.Perm (LL x)):wpD P w0 n ops Q ex F L fuel listed:=λa w ha hw=>by
 subst hl
 exact h x hx a w (ha.all hF) (hw.perm p)
section
variable (ax ay:Nat) (ai:Bool) (X Y:Nat→Nat) (I:Nat→Bool)
def sjX (_ j:Nat):Nat:=pX (BF ax ay ai (X j) (Y j) (I j))
def sjY (_ j:Nat):Nat:=pY (BF ax ay ai (X j) (Y j) (I j))
def sjI (_ j:Nat):Bool:=pI (BF ax ay ai (X j) (Y j) (I j))
theorem Qu (ax ay:Nat) (ai:Bool) (x y:Nat) (i:Bool):Ec.On (BF ax ay ai x y i):=Ec.On.add fld (Cy _ _ _) (Ec.On.neg (Cy _ _ _))
theorem Jo {n:Nat} (h:Ee n=true):CJ 1 (λ_=>n) (sjX ax ay ai X Y I) (sjY ax ay ai X Y I) (sjI ax ay ai X Y I)=true:=by
 have hn:=alw_iff.1 h
 refine MC dZ dZ (λk _=>⟨hn,λj _=>I1 (Qu ..)⟩)
end
abbrev yT (ax ay:Nat) (ai:Bool) (g:Nat):Nat×TypeId×Array Value:=(g,174,((Aw (dec ax ay ai)).map bv).toArray)
abbrev yA (f:Nat→List Value) (n g:Nat):Nat×TypeId×Array Value:=(g,176,(AO (upto n f (pml 0 0 false)) 64).toArray)
abbrev yR (n ga g:Nat):Nat×TypeId×Array Value:=(g,45,#[.slice (pA ga) n n])
abbrev zX (z:Int) (kx g:Nat):Nat×TypeId×Array Value:=(g,44,(CA z kx).toArray)
abbrev zW (g:Nat):Nat×TypeId×Array Value:=(g,31,zS33.toArray)
abbrev zB (sd:List UInt8) (ax ay:Nat) (ai:Bool) (kx g0 g1 g2:Nat):AC:=[(g0,23,(sd.map bv).toArray),(g1,48,(pcs ax ay ai)),(g2,42,(fcs kx))]
def T6 (al bf:Bool) (l:List UInt8) (v:Value) (M:AC):Prop:=(al=false∧v=.tuple #[.slice none 0 0,.int .i64 100]∧M=[])∨(al=true∧bf=false∧v=.tuple #[.slice none 0 0,.int .i64 101]∧M=[])∨(al=true∧bf=true∧∃ y:Slc,v=.tuple #[y.v,.int .i64 0]∧M=y.bl∧y.Is 5 1 (Aq l))
section
variable (sd:List UInt8) (ax ay:Nat) (ai:Bool) (X Y:Nat→Nat) (I:Nat→Bool) (n:Nat) (z:Int) (kx:Nat)
def sjM:List UInt8:=rgM (Aw (dec ax ay ai)) 1 (λ_=>n) (sjX ax ay ai X Y I) (sjY ax ay ai X Y I) (sjI ax ay ai X Y I)
def sjD:List UInt8:=sgD (sjM ax ay ai X Y I n) sd (sjX ax ay ai X Y I) (sjY ax ay ai X Y I) (sjI ax ay ai X Y I) (λ_=>z.toNat) (λ_=>n) 1
def sjS:Nat→Nat→Nat:=sgS (sjM ax ay ai X Y I n) sd (sjX ax ay ai X Y I) (sjY ax ay ai X Y I) (sjI ax ay ai X Y I) (λ_=>z.toNat) (λ_=>kx) (sjD sd ax ay ai X Y I n z)
def sjF:Bool:=D2 (λ_=>z) (λ_=>kx) (λ_=>n) (sjX ax ay ai X Y I) (sjY ax ay ai X Y I) (sjI ax ay ai X Y I) 1 1
def sjL:List UInt8:=UInt8.ofNat n::(sjD sd ax ay ai X Y I n z++Ef (sjS sd ax ay ai X Y I n z kx) (λ_=>n) 1)
end
theorem From.srcL {w0:Base} {L:AC} {A:Option Addr} {l:List UInt8} (hs:∀ w,St w0 w L→Sh.Src w A l):From w0 L A (Aq l).flatten:=λw hw=>by
 rw [Cw]
 by_cases h0:l=[]
 ·subst h0; exact .inl U
 ·obtain ⟨b,o,e,h2,h3⟩:=hs w hw h0
  refine .inr ⟨_,e,λj u hj=>?_⟩
  rw [BU]
  rw [List.getElem?_map] at hj
  cases hx:l[j]? with
  | none=>rw [hx] at hj; cases hj
  | some x =>
   rw [hx] at hj
   injection hj with hj
   rw [← hj]
   exact h3 j x hx
theorem Mg {w:World} {g n:Nat} {t:TypeId} {f f':Nat→List Value} (hf:∀ j,(f j).length=9) (hn:n≤64) (hb:Blk w g t (AO (upto n f (pml 0 0 false)) 64).toArray) (he:∀ j,f j=f' j):Lst w 9 (pA g) n f':=by
 refine ⟨g,0,λ_=>⟨rfl,hb.lt,λj hj i v hi=>?_⟩⟩
 have h1:=EX (f:=upto n f (pml 0 0 false)) (Ax hf U _) (n:=64) (k:=j) (o:=0+j*9) om om
 have h2:(((AO (upto n f (pml 0 0 false)) 64).drop (0+j*9)).take 9)=f' j:=by
  have:=h1
  rw [← he j, ← Ij (k:=n) (A:=f) (z:=pml 0 0 false) hj]
  exact this
 have hl:(f' j).length=9:=by rw [← he]; exact hf j
 rw [← h2] at hi
 have hi9:i<9:=by
  have:=(List.getElem?_eq_some_iff.1 hi).1
  rw [List.length_take] at this
  omega
 rw [List.getElem?_take_of_lt hi9,List.getElem?_drop] at hi
 exact (hb.cell _).trans (by rw [List.getElem?_toArray]; exact hi)
theorem Jz (w:World) (sd:List UInt8) (hsd:sd.length=32) (A:Option Addr) (n c:Nat) (X Y:Nat→Nat) (I:Nat→Bool) (hX:∀ k,X k<K4) (hY:∀ k,Y k<K4) (hn:n≤9223372036854775807) (hlk:Lst w 9 A n (λk=>pml (X k) (Y k) (I k))) (ax ay:Nat) (ai:Bool) (hax:ax<K4) (hay:ay<K4) (z:Int) (kx:Nat) (hkx:kx<K4) (ht:Sh.TabAt w 1) :
  Calls Tryz.prog 31 #[.agg (sd.map bv).toArray,.slice A n c,pv ax ay ai,.int .i64 z,fv kx] w (GetsN w (T6 (Ee n) (sjF ax ay ai X Y I n z kx) (sjL sd ax ay ai X Y I n z kx))):=by
 obtain ⟨b1,hb1⟩:=xE (Ee n)
 rw [← hb1]
 refine Sy.enter (args:=[.agg (sd.map bv).toArray,.slice A n c,pv ax ay ai,.int .i64 z,fv kx]) Tryz.func31 U kL<|sC<|sM 23 (sd.map bv).toArray (λg0=>?_)
 refine sM 48 (pcs ax ay ai) (λg1=>?_)
 refine sM 42 (fcs kx) (λg2=>?_)
 refine sP (.slice none 0 0)<|sP (.int .i64 0)<|sG<|Sy.seq<|sC<|sP (.slice A n c)<|sP (iZ n)<|sS (.bool b1) (qG 83 #[iZ n] (λw hw=>by rw [hb1]; exact F9 w n hn)) ?_
 cases b1
 ·refine sP (.bool true) ?_
  refine sG<|sT<|sC<|sP (.slice none 0 0)<|sP (.int .i64 100)<|sG<|Sy.ret<|Sy.then_ret ?_
  exact BJ [] rfl (v:=.slice none 0 0) (u:=.int .i64 100) (.inl (show _=_ by kernel_rfl)) (.inl (show _=_ by kernel_rfl)) (λ_ hw=>hw.none) (.inl ⟨rfl,rfl,rfl⟩)
 ·have hn64:n≤64:=(alw_iff.1 hb1.symm).2
  have hn1:1≤n:=(alw_iff.1 hb1.symm).1
  have hn:n≤4611686018427387904:=Nat.le_trans hn64 dZ
  obtain ⟨bf,hbf⟩:=xE (sjF ax ay ai X Y I n z kx)
  rw [← hbf]
  obtain ⟨fK,hfK⟩:∃ f:Nat→List Value,f=(λj=>pml (pX (BF ax ay ai (X j) (Y j) (I j))) (pY (BF ax ay ai (X j) (Y j) (I j))) (pI (BF ax ay ai (X j) (Y j) (I j)))):=⟨_,rfl⟩
  have hf9:∀ j,(fK j).length=9:=λj=>by rw [hfK]; rfl
  obtain ⟨dS,hdS⟩:=xE (sjD sd ax ay ai X Y I n z)
  obtain ⟨zS,hzS⟩:=xE (sjS sd ax ay ai X Y I n z kx)
  have hdSl:dS.length=32:=by rw [hdS]; exact E2 _
  have hzS4:∀ i k,zS i k<K4:=λi k=>by rw [hzS]; exact R7 _ _
  obtain ⟨dU,hdU⟩:=xE (uD true bf dS)
  obtain ⟨NU,hNU⟩:=xE (uN true bf 1)
  obtain ⟨en,hen⟩:=xE (uE true bf)
  have hdUl:dU.length=32:=by rw [hdU]; exact Rz hdSl
  have hc5:∀ {L:AC} w',St (Base.of w) w' L→Calls Tryz.prog 85 #[.slice A n c,pv ax ay ai] w' (GetsN w' (Fb fK n)):=λw' hw=>by rw [hfK]; exact F2 w' A n c X Y I hX hY ax ay ai hax hay hn64 (hlk.below hw.below)
  have hsign:∀ w',(∀ {L},St (Base.of w) w' L→∀ gt ga gr gs,Blk w' gt 174 ((Aw (dec ax ay ai)).map bv).toArray→Blk w' ga 176 (AO (upto n fK (pml 0 0 false)) 64).toArray→Blk w' gr 45 #[.slice (pA ga) n n]→Blk w' gs 44 (CA z kx).toArray →
    Calls Tryz.prog 10 #[.agg (sd.map bv).toArray,.slice (pA gt) 33 33,.slice (pA gr) 1 1,.slice (pA gs) 1 1] w' (GetsN w' (CX (Base.of w) dU NU (λ_=>n) zS (.int .i64 en)))):=λw' {L} hw gt ga gr gs h1 h2 h3 h4=>by
   have q:=Nw w' sd hsd (pA gt) (Aw (dec ax ay ai)) 33 33 (Ap _) dZ dZ dZ (Sh.Src.of_blk h1) (pA gr) 1 1 (λ_=>some ⟨ga,0,none⟩) (λ_=>n) (λ_=>n) (sjX ax ay ai X Y I) (sjY ax ay ai X Y I) (sjI ax ay ai X Y I) (λ_ _=>Eh _) (λ_ _=>Eg _) dZ (λ_=>hn) (DT h3 U) (λi _=>Mg hf9 hn64 h2 (λj=>by rw [hfK]; rfl)) dZ (pA gs) 1 1 (λ_=>z) (λ_=>kx) (λ_=>hkx) dZ (DT h4 U) (ht.below hw.below ht.lt)
   rw [Jo ax ay ai X Y I hb1.symm] at q
   rw [hdU,hNU,hen,hzS,hdS,hbf]
   exact Calls.mono q (λe w' ⟨v,M,q1,q2,q3⟩=>⟨v,M,q1,SgnR.uniC q2,q3⟩)
  refine sP (.bool false)<|sG<|sU<|Sy.skip<|sR (λj=>j == 15) ?_
  refine sD 0 U (.agg (sd.map bv).toArray) (Quiet.load 0 g0 0 32 23 23 (sd.map bv).toArray _ _ U kR kR D6 U kR _ (CW sd hsd) (Ct sd hsd))<|sD 1 U (pv ax ay ai) (qL 1 g1 0 9 48 48 (pcs ax ay ai) rfl Ac)<|sZ 3 U (.slice A n c)<|sD 4 U (pv ax ay ai) (qL 1 g1 0 9 48 48 (pcs ax ay ai) rfl Ac) <|
   sZ 6 U (.int .i64 z)<|sD 7 U (fv kx) (qL 2 g2 0 4 42 42 (fcs kx) rfl Ak)<|sZ 8 U (.agg (CA z kx).toArray) ?_
  refine Sy.joinG (T:=Nat×Nat×Nat×Nat×Nat×Option Addr×Nat×AC) (λx=>[(1,.slice A n c),(12,ptr x.2.2.2.2.1),(30,AX dU x.2.2.2.2.2.1 NU x.2.2.2.2.2.2.1),(31,.int .i64 en)]) (λx=>[(g0,23,(sd.map bv).toArray),(g1,48,(pcs ax ay ai)),(g2,42,(fcs kx)),(yT ax ay ai (x.1)),(yA fK n (x.2.1)),(yR n (x.2.1) (x.2.2.1)),(zX z kx (x.2.2.2.1)),(zW (x.2.2.2.2.1))]++x.2.2.2.2.2.2.2) (λx=>∃ sa sc,RwU (Base.of w) x.2.2.2.2.2.1 NU (λ_=>n) zS sa sc x.2.2.2.2.2.2.2) 2 #[true,true,true,true,true,true,true,true,true,true,true,true,true,true,true,false,false] (λx hx=>?_) (λfin=>?_)
  ·obtain ⟨gt,ga,gr,gs,g12,W1,c1,M1⟩:=x
   obtain ⟨sa1,sc1,hU1⟩:=hx
   dsimp only
   refine sX 15 U 7 g12 31 zS33.toArray (AM dU W1 NU c1).toArray (Writes.row 31 (AM dU W1 NU c1) 33 _ _ U kR kR kR (Ag hdUl) (by rw [List.size_toArray,Ag List.length_replicate]) BV)<|Sy.setTD<|Sy.anyOf [16] kZ dZ (Sy.each1 ?_)
   refine Sy.oneQuiet U kR (.int .i64 en) (Quiet.pure kF)<|sI<|Sy.seq<|sC ?_
   obtain ⟨b4,hb4⟩:=xE (decide (en≠0))
   refine sP (.int .i64 en)<|sS (.bool b4) (Quiet.pure (AU .neq _ _ _ .i64 _ _ _ U U U (Ds _ _ _ _ _ hb4.symm)))<|sG ?_
   cases b4
   ·have he0:en=0:=Decidable.of_not_not (of_decide_eq_false hb4.symm)
    have hbb:bf=true:=by
     rw [hen] at he0
     cases bf <;> first | rfl | cases he0
    subst hbb
    obtain rfl:1=NU:=hNU.symm
    obtain rfl:dU=dS:=hdU
    obtain ⟨l0,hl0⟩:=xE (dU++Ef zS (λ_=>n) 1)
    have hll:l0.length≤2080:=by
     have e:A4 (λ_=>n) 1=n:=Nat.zero_add n
     rw [hl0,List.length_append,hdUl,Em,e]
     omega
    refine sU<|Sy.skip<|sB<|sP (.slice A n c)<|sP (iZ n)<|sS (bv (UInt8.ofNat n)) (Quiet.pure (λw=>Cp w _ _ _ n om U U))<|Sy.make kR 5 #[bv (UInt8.ofNat n)] (λg=>.slice (pA g) 1 1) kF (λg7=>?_)
    refine Sy.movT<|sS (AX dU W1 1 c1) (Quiet.load 7 g12 0 33 31 31 (AM dU W1 1 c1).toArray _ _ U kR kR C8 U kR _ (C_ hdUl) (Ek hdUl))<|Sy.callN kR 86 #[AX dU W1 1 c1] kF _ (λw hw=>by have u:=hU1.2 w _ hw (λb hb=>List.mem_append.2 (.inr hb)); have q:=PK w dU hdUl W1 1 c1 sa1 (λ_=>n) sc1 zS hzS4 dZ (λ_ _=>hn) u.1 u.2 dZ (by show 0+n≤_; omega) hU1.1; rw [← hl0] at q; exact q) (λv M3 hR0=>?_)
    obtain ⟨y3,rfl,rfl,hy3⟩:=hR0
    obtain ⟨A3,c3,hv3,hl3,hc3,hs3⟩:=K1 hy3
    have hr7:Slc.Is ⟨.slice (pA g7) 1 1,[(g7,5,#[bv (UInt8.ofNat n)])]⟩ 5 1 (Aq [UInt8.ofNat n]):=Slc.Is.mk' (cs:=[bv (UInt8.ofNat n)]) (CQ _) (B7 _) rfl U U (Nat.le_refl _) dZ
    refine Sy.permS (M:=[(g0,23,(sd.map bv).toArray),(g1,48,(pcs ax ay ai)),(g2,42,(fcs kx)),(yT ax ay ai (gt)),(yA fK n (ga)),(yR n (ga) (gr)),(zX z kx (gs)),(g12,31,(AM dU W1 1 c1).toArray)]++([(g7,5,#[bv (UInt8.ofNat n)])]++(M1++(y3.bl++[])))) (by simp only [List.append_assoc,List.append_nil]; exact List.Perm.refl _)<|Sy.appendM kR 24 5 _ _ 1 1 CI EU U U U U dZ _ _ U (ys:=Aq l0) hr7 kR (CQ _) (B7 _) A3 l0.length c3 (A6 _) hl3 (by rw [← hv3]; kernel_rfl) (λr=>From.srcL (λw hw=>hs3 hw (λb hb=>by simp only [List.mem_append]; exact .inr (.inr (.inr (.inl hb)))))) (by rw [A6]; show (1+l0.length)*1≤_; omega) (by rw [A6]; show 1+l0.length≤_; simp only [maxLen]; omega) (λr hr=>?_)
    refine sP r.v<|sP (.int .i64 0)<|sG<|Sy.ret ?_
    have e1:sjL sd ax ay ai X Y I n z kx=UInt8.ofNat n::l0:=by unfold sjL; rw [← hdS, ← hzS,hl0]
    rw [e1]
    exact BJ r.bl U (v:=r.v) (u:=.int .i64 0) (.inl (show _=_ by kernel_rfl)) (.inl (show _=_ by kernel_rfl)) (λw hw=>St.less hw ((List.sublist_append_left _ _).trans (List.sublist_append_right _ _))) (.inr (.inr ⟨rfl,rfl,r,rfl,rfl,hr⟩))
   ·have he1:=dY hb4
    have hbb:bf=false:=by
     rw [hen] at he1
     cases bf <;> first | rfl | exact absurd U he1
    subst hbb
    refine sT<|sC<|sP (.slice none 0 0)<|sP (.int .i64 101)<|sG<|Sy.ret<|Sy.then_ret ?_
    exact BJ [] rfl (v:=.slice none 0 0) (u:=.int .i64 101) (.inl (show _=_ by kernel_rfl)) (.inl (show _=_ by kernel_rfl)) (λ_ hw=>hw.none) (.inr (.inl ⟨rfl,rfl,rfl,rfl⟩))
  ·refine Sy.anyOf [2,9,14] kZ dZ (Sy.each3 ?_ ?_ ?_)
   ·refine Sy.oneCallN U kZ 84 #[pv ax ay ai] kF (CT (dec ax ay ai)) (λw _=>Ci w ax ay ai hax hay) (λv M hR0=>?_)
    obtain ⟨gt,rfl,rfl⟩:=hR0
    refine Sy.anyOf [5,9,14] kZ dZ (Sy.each3 ?_ ?_ ?_)
    ·refine Sy.oneCallN U kZ 85 #[.slice A n c,pv ax ay ai] kF (Fb fK n) hc5 (λv M hR0=>?_)
     obtain ⟨ga,gr,rfl,rfl⟩:=hR0
     refine Sy.anyOf [9,14] kZ dZ (Sy.each2 ?_ ?_)
     ·refine Sy.oneMake U kZ 44 (CA z kx).toArray (λg=>.slice (pA g) 1 1) kF (λgs=>?_)
      refine Sy.anyOf [10,14] kZ dZ (Sy.each2 ?_ ?_)
      ·refine Sy.oneCallN U kZ 10 #[.agg (sd.map bv).toArray,.slice (pA gt) 33 33,.slice (pA gr) 1 1,.slice (pA gs) 1 1] kF (CX (Base.of w) dU NU (λ_=>n) zS (.int .i64 en)) (λw' hw=>hsign w' hw gt ga gr gs (hw.get (i:=3) rfl) (hw.get (i:=4) rfl) (hw.get (i:=5) rfl) (hw.get (i:=6) rfl)) (λv M1 hR0=>?_)
       obtain ⟨W1,c1,sa1,sc1,rfl,hU1⟩:=hR0
       refine sZ 11 U (.tuple #[AX dU W1 NU c1,.int .i64 en])<|sZ 12 U (AX dU W1 NU c1)<|Sy.stepDA 13 U kR (λ_ _ _ _ h=>h) kR (.int .i64 en) kF<|Sy.makeD 14 U kR kR 31 zS33.toArray ptr kF (λg12=>?_)
       exact DG fin (gt,ga,gr,gs,g12,W1,c1,M1) ⟨sa1,sc1,hU1⟩ kR ac4 (Sy.flat_perm (ls:=[zB sd ax ay ai kx g0 g1 g2,[(yT ax ay ai (gt))],[(yA fK n (ga))],[(yR n (ga) (gr))],[(zX z kx (gs))],M1,[(zW (g12))]]) (ms:=[zB sd ax ay ai kx g0 g1 g2,[(yT ax ay ai (gt))],[(yA fK n (ga))],[(yR n (ga) (gr))],[(zX z kx (gs))],[(zW (g12))],M1]) [0,1,2,3,4,6,5] kZ (by rfl) (by simp) (by simp))
      ·refine Sy.oneMake U kZ 31 zS33.toArray ptr kF (λg12=>?_)
       refine Sy.callND 10 U kR kR 10 #[.agg (sd.map bv).toArray,.slice (pA gt) 33 33,.slice (pA gr) 1 1,.slice (pA gs) 1 1] kF (CX (Base.of w) dU NU (λ_=>n) zS (.int .i64 en)) (λw' hw=>hsign w' hw gt ga gr gs (hw.get (i:=3) rfl) (hw.get (i:=4) rfl) (hw.get (i:=5) rfl) (hw.get (i:=6) rfl)) (λv M1 hR0=>?_)
       obtain ⟨W1,c1,sa1,sc1,rfl,hU1⟩:=hR0
       refine sZ 11 U (.tuple #[AX dU W1 NU c1,.int .i64 en])<|sZ 12 U (AX dU W1 NU c1)<|Sy.stepDA 13 U kR (λ_ _ _ _ h=>h) kR (.int .i64 en) kF ?_
       exact DG fin (gt,ga,gr,gs,g12,W1,c1,M1) ⟨sa1,sc1,hU1⟩ kR ac4 (Sy.flat_perm (ls:=[zB sd ax ay ai kx g0 g1 g2,[(yT ax ay ai (gt))],[(yA fK n (ga))],[(yR n (ga) (gr))],[(zX z kx (gs))],[(zW (g12))],M1]) (ms:=[zB sd ax ay ai kx g0 g1 g2,[(yT ax ay ai (gt))],[(yA fK n (ga))],[(yR n (ga) (gr))],[(zX z kx (gs))],[(zW (g12))],M1]) [0,1,2,3,4,5,6] kZ (by rfl) (by simp) (by simp))
     ·refine Sy.oneMake U kZ 31 zS33.toArray ptr kF (λg12=>?_)
      refine Sy.makeD 9 U kR kR 44 (CA z kx).toArray (λg=>.slice (pA g) 1 1) kF (λgs=>?_)
      refine Sy.callND 10 U kR kR 10 #[.agg (sd.map bv).toArray,.slice (pA gt) 33 33,.slice (pA gr) 1 1,.slice (pA gs) 1 1] kF (CX (Base.of w) dU NU (λ_=>n) zS (.int .i64 en)) (λw' hw=>hsign w' hw gt ga gr gs (hw.get (i:=3) rfl) (hw.get (i:=4) rfl) (hw.get (i:=5) rfl) (hw.get (i:=7) rfl)) (λv M1 hR0=>?_)
      obtain ⟨W1,c1,sa1,sc1,rfl,hU1⟩:=hR0
      refine sZ 11 U (.tuple #[AX dU W1 NU c1,.int .i64 en])<|sZ 12 U (AX dU W1 NU c1)<|Sy.stepDA 13 U kR (λ_ _ _ _ h=>h) kR (.int .i64 en) kF ?_
      exact DG fin (gt,ga,gr,gs,g12,W1,c1,M1) ⟨sa1,sc1,hU1⟩ kR ac4 (Sy.flat_perm (ls:=[zB sd ax ay ai kx g0 g1 g2,[(yT ax ay ai (gt))],[(yA fK n (ga))],[(yR n (ga) (gr))],[(zW (g12))],[(zX z kx (gs))],M1]) (ms:=[zB sd ax ay ai kx g0 g1 g2,[(yT ax ay ai (gt))],[(yA fK n (ga))],[(yR n (ga) (gr))],[(zX z kx (gs))],[(zW (g12))],M1]) [0,1,2,3,5,4,6] kZ (by rfl) (by simp) (by simp))
    ·refine Sy.oneMake U kZ 44 (CA z kx).toArray (λg=>.slice (pA g) 1 1) kF (λgs=>?_)
     refine Sy.anyOf [5,14] kZ dZ (Sy.each2 ?_ ?_)
     ·refine Sy.oneCallN U kZ 85 #[.slice A n c,pv ax ay ai] kF (Fb fK n) hc5 (λv M hR0=>?_)
      obtain ⟨ga,gr,rfl,rfl⟩:=hR0
      refine Sy.anyOf [10,14] kZ dZ (Sy.each2 ?_ ?_)
      ·refine Sy.oneCallN U kZ 10 #[.agg (sd.map bv).toArray,.slice (pA gt) 33 33,.slice (pA gr) 1 1,.slice (pA gs) 1 1] kF (CX (Base.of w) dU NU (λ_=>n) zS (.int .i64 en)) (λw' hw=>hsign w' hw gt ga gr gs (hw.get (i:=3) rfl) (hw.get (i:=5) rfl) (hw.get (i:=6) rfl) (hw.get (i:=4) rfl)) (λv M1 hR0=>?_)
       obtain ⟨W1,c1,sa1,sc1,rfl,hU1⟩:=hR0
       refine sZ 11 U (.tuple #[AX dU W1 NU c1,.int .i64 en])<|sZ 12 U (AX dU W1 NU c1)<|Sy.stepDA 13 U kR (λ_ _ _ _ h=>h) kR (.int .i64 en) kF<|Sy.makeD 14 U kR kR 31 zS33.toArray ptr kF (λg12=>?_)
       exact DG fin (gt,ga,gr,gs,g12,W1,c1,M1) ⟨sa1,sc1,hU1⟩ kR ac4 (Sy.flat_perm (ls:=[zB sd ax ay ai kx g0 g1 g2,[(yT ax ay ai (gt))],[(zX z kx (gs))],[(yA fK n (ga))],[(yR n (ga) (gr))],M1,[(zW (g12))]]) (ms:=[zB sd ax ay ai kx g0 g1 g2,[(yT ax ay ai (gt))],[(yA fK n (ga))],[(yR n (ga) (gr))],[(zX z kx (gs))],[(zW (g12))],M1]) [0,1,3,4,2,6,5] kZ (by rfl) (by simp) (by simp))
      ·refine Sy.oneMake U kZ 31 zS33.toArray ptr kF (λg12=>?_)
       refine Sy.callND 10 U kR kR 10 #[.agg (sd.map bv).toArray,.slice (pA gt) 33 33,.slice (pA gr) 1 1,.slice (pA gs) 1 1] kF (CX (Base.of w) dU NU (λ_=>n) zS (.int .i64 en)) (λw' hw=>hsign w' hw gt ga gr gs (hw.get (i:=3) rfl) (hw.get (i:=5) rfl) (hw.get (i:=6) rfl) (hw.get (i:=4) rfl)) (λv M1 hR0=>?_)
       obtain ⟨W1,c1,sa1,sc1,rfl,hU1⟩:=hR0
       refine sZ 11 U (.tuple #[AX dU W1 NU c1,.int .i64 en])<|sZ 12 U (AX dU W1 NU c1)<|Sy.stepDA 13 U kR (λ_ _ _ _ h=>h) kR (.int .i64 en) kF ?_
       exact DG fin (gt,ga,gr,gs,g12,W1,c1,M1) ⟨sa1,sc1,hU1⟩ kR ac4 (Sy.flat_perm (ls:=[zB sd ax ay ai kx g0 g1 g2,[(yT ax ay ai (gt))],[(zX z kx (gs))],[(yA fK n (ga))],[(yR n (ga) (gr))],[(zW (g12))],M1]) (ms:=[zB sd ax ay ai kx g0 g1 g2,[(yT ax ay ai (gt))],[(yA fK n (ga))],[(yR n (ga) (gr))],[(zX z kx (gs))],[(zW (g12))],M1]) [0,1,3,4,2,5,6] kZ (by rfl) (by simp) (by simp))
     ·refine Sy.oneMake U kZ 31 zS33.toArray ptr kF (λg12=>?_)
      refine Sy.callND 5 U kR kR 85 #[.slice A n c,pv ax ay ai] kF (Fb fK n) hc5 (λv M hR0=>?_)
      obtain ⟨ga,gr,rfl,rfl⟩:=hR0
      refine Sy.callND 10 U kR kR 10 #[.agg (sd.map bv).toArray,.slice (pA gt) 33 33,.slice (pA gr) 1 1,.slice (pA gs) 1 1] kF (CX (Base.of w) dU NU (λ_=>n) zS (.int .i64 en)) (λw' hw=>hsign w' hw gt ga gr gs (hw.get (i:=3) rfl) (hw.get (i:=6) rfl) (hw.get (i:=7) rfl) (hw.get (i:=4) rfl)) (λv M1 hR0=>?_)
      obtain ⟨W1,c1,sa1,sc1,rfl,hU1⟩:=hR0
      refine sZ 11 U (.tuple #[AX dU W1 NU c1,.int .i64 en])<|sZ 12 U (AX dU W1 NU c1)<|Sy.stepDA 13 U kR (λ_ _ _ _ h=>h) kR (.int .i64 en) kF ?_
      exact DG fin (gt,ga,gr,gs,g12,W1,c1,M1) ⟨sa1,sc1,hU1⟩ kR ac4 (Sy.flat_perm (ls:=[zB sd ax ay ai kx g0 g1 g2,[(yT ax ay ai (gt))],[(zX z kx (gs))],[(zW (g12))],[(yA fK n (ga))],[(yR n (ga) (gr))],M1]) (ms:=[zB sd ax ay ai kx g0 g1 g2,[(yT ax ay ai (gt))],[(yA fK n (ga))],[(yR n (ga) (gr))],[(zX z kx (gs))],[(zW (g12))],M1]) [0,1,4,5,2,3,6] kZ (by rfl) (by simp) (by simp))
    ·refine Sy.oneMake U kZ 31 zS33.toArray ptr kF (λg12=>?_)
     refine Sy.anyOf [5,9] kZ dZ (Sy.each2 ?_ ?_)
     ·refine Sy.oneCallN U kZ 85 #[.slice A n c,pv ax ay ai] kF (Fb fK n) hc5 (λv M hR0=>?_)
      obtain ⟨ga,gr,rfl,rfl⟩:=hR0
      refine Sy.makeD 9 U kR kR 44 (CA z kx).toArray (λg=>.slice (pA g) 1 1) kF (λgs=>?_)
      refine Sy.callND 10 U kR kR 10 #[.agg (sd.map bv).toArray,.slice (pA gt) 33 33,.slice (pA gr) 1 1,.slice (pA gs) 1 1] kF (CX (Base.of w) dU NU (λ_=>n) zS (.int .i64 en)) (λw' hw=>hsign w' hw gt ga gr gs (hw.get (i:=3) rfl) (hw.get (i:=5) rfl) (hw.get (i:=6) rfl) (hw.get (i:=7) rfl)) (λv M1 hR0=>?_)
      obtain ⟨W1,c1,sa1,sc1,rfl,hU1⟩:=hR0
      refine sZ 11 U (.tuple #[AX dU W1 NU c1,.int .i64 en])<|sZ 12 U (AX dU W1 NU c1)<|Sy.stepDA 13 U kR (λ_ _ _ _ h=>h) kR (.int .i64 en) kF ?_
      exact DG fin (gt,ga,gr,gs,g12,W1,c1,M1) ⟨sa1,sc1,hU1⟩ kR ac4 (Sy.flat_perm (ls:=[zB sd ax ay ai kx g0 g1 g2,[(yT ax ay ai (gt))],[(zW (g12))],[(yA fK n (ga))],[(yR n (ga) (gr))],[(zX z kx (gs))],M1]) (ms:=[zB sd ax ay ai kx g0 g1 g2,[(yT ax ay ai (gt))],[(yA fK n (ga))],[(yR n (ga) (gr))],[(zX z kx (gs))],[(zW (g12))],M1]) [0,1,3,4,5,2,6] kZ (by rfl) (by simp) (by simp))
     ·refine Sy.oneMake U kZ 44 (CA z kx).toArray (λg=>.slice (pA g) 1 1) kF (λgs=>?_)
      refine Sy.callND 5 U kR kR 85 #[.slice A n c,pv ax ay ai] kF (Fb fK n) hc5 (λv M hR0=>?_)
      obtain ⟨ga,gr,rfl,rfl⟩:=hR0
      refine Sy.callND 10 U kR kR 10 #[.agg (sd.map bv).toArray,.slice (pA gt) 33 33,.slice (pA gr) 1 1,.slice (pA gs) 1 1] kF (CX (Base.of w) dU NU (λ_=>n) zS (.int .i64 en)) (λw' hw=>hsign w' hw gt ga gr gs (hw.get (i:=3) rfl) (hw.get (i:=6) rfl) (hw.get (i:=7) rfl) (hw.get (i:=5) rfl)) (λv M1 hR0=>?_)
      obtain ⟨W1,c1,sa1,sc1,rfl,hU1⟩:=hR0
      refine sZ 11 U (.tuple #[AX dU W1 NU c1,.int .i64 en])<|sZ 12 U (AX dU W1 NU c1)<|Sy.stepDA 13 U kR (λ_ _ _ _ h=>h) kR (.int .i64 en) kF ?_
      exact DG fin (gt,ga,gr,gs,g12,W1,c1,M1) ⟨sa1,sc1,hU1⟩ kR ac4 (Sy.flat_perm (ls:=[zB sd ax ay ai kx g0 g1 g2,[(yT ax ay ai (gt))],[(zW (g12))],[(zX z kx (gs))],[(yA fK n (ga))],[(yR n (ga) (gr))],M1]) (ms:=[zB sd ax ay ai kx g0 g1 g2,[(yT ax ay ai (gt))],[(yA fK n (ga))],[(yR n (ga) (gr))],[(zX z kx (gs))],[(zW (g12))],M1]) [0,1,4,5,3,2,6] kZ (by rfl) (by simp) (by simp))
   ·refine Sy.oneMake U kZ 44 (CA z kx).toArray (λg=>.slice (pA g) 1 1) kF (λgs=>?_)
    refine Sy.anyOf [2,14] kZ dZ (Sy.each2 ?_ ?_)
    ·refine Sy.oneCallN U kZ 84 #[pv ax ay ai] kF (CT (dec ax ay ai)) (λw _=>Ci w ax ay ai hax hay) (λv M hR0=>?_)
     obtain ⟨gt,rfl,rfl⟩:=hR0
     refine Sy.anyOf [5,14] kZ dZ (Sy.each2 ?_ ?_)
     ·refine Sy.oneCallN U kZ 85 #[.slice A n c,pv ax ay ai] kF (Fb fK n) hc5 (λv M hR0=>?_)
      obtain ⟨ga,gr,rfl,rfl⟩:=hR0
      refine Sy.anyOf [10,14] kZ dZ (Sy.each2 ?_ ?_)
      ·refine Sy.oneCallN U kZ 10 #[.agg (sd.map bv).toArray,.slice (pA gt) 33 33,.slice (pA gr) 1 1,.slice (pA gs) 1 1] kF (CX (Base.of w) dU NU (λ_=>n) zS (.int .i64 en)) (λw' hw=>hsign w' hw gt ga gr gs (hw.get (i:=4) rfl) (hw.get (i:=5) rfl) (hw.get (i:=6) rfl) (hw.get (i:=3) rfl)) (λv M1 hR0=>?_)
       obtain ⟨W1,c1,sa1,sc1,rfl,hU1⟩:=hR0
       refine sZ 11 U (.tuple #[AX dU W1 NU c1,.int .i64 en])<|sZ 12 U (AX dU W1 NU c1)<|Sy.stepDA 13 U kR (λ_ _ _ _ h=>h) kR (.int .i64 en) kF<|Sy.makeD 14 U kR kR 31 zS33.toArray ptr kF (λg12=>?_)
       exact DG fin (gt,ga,gr,gs,g12,W1,c1,M1) ⟨sa1,sc1,hU1⟩ kR ac4 (Sy.flat_perm (ls:=[zB sd ax ay ai kx g0 g1 g2,[(zX z kx (gs))],[(yT ax ay ai (gt))],[(yA fK n (ga))],[(yR n (ga) (gr))],M1,[(zW (g12))]]) (ms:=[zB sd ax ay ai kx g0 g1 g2,[(yT ax ay ai (gt))],[(yA fK n (ga))],[(yR n (ga) (gr))],[(zX z kx (gs))],[(zW (g12))],M1]) [0,2,3,4,1,6,5] kZ (by rfl) (by simp) (by simp))
      ·refine Sy.oneMake U kZ 31 zS33.toArray ptr kF (λg12=>?_)
       refine Sy.callND 10 U kR kR 10 #[.agg (sd.map bv).toArray,.slice (pA gt) 33 33,.slice (pA gr) 1 1,.slice (pA gs) 1 1] kF (CX (Base.of w) dU NU (λ_=>n) zS (.int .i64 en)) (λw' hw=>hsign w' hw gt ga gr gs (hw.get (i:=4) rfl) (hw.get (i:=5) rfl) (hw.get (i:=6) rfl) (hw.get (i:=3) rfl)) (λv M1 hR0=>?_)
       obtain ⟨W1,c1,sa1,sc1,rfl,hU1⟩:=hR0
       refine sZ 11 U (.tuple #[AX dU W1 NU c1,.int .i64 en])<|sZ 12 U (AX dU W1 NU c1)<|Sy.stepDA 13 U kR (λ_ _ _ _ h=>h) kR (.int .i64 en) kF ?_
       exact DG fin (gt,ga,gr,gs,g12,W1,c1,M1) ⟨sa1,sc1,hU1⟩ kR ac4 (Sy.flat_perm (ls:=[zB sd ax ay ai kx g0 g1 g2,[(zX z kx (gs))],[(yT ax ay ai (gt))],[(yA fK n (ga))],[(yR n (ga) (gr))],[(zW (g12))],M1]) (ms:=[zB sd ax ay ai kx g0 g1 g2,[(yT ax ay ai (gt))],[(yA fK n (ga))],[(yR n (ga) (gr))],[(zX z kx (gs))],[(zW (g12))],M1]) [0,2,3,4,1,5,6] kZ (by rfl) (by simp) (by simp))
     ·refine Sy.oneMake U kZ 31 zS33.toArray ptr kF (λg12=>?_)
      refine Sy.callND 5 U kR kR 85 #[.slice A n c,pv ax ay ai] kF (Fb fK n) hc5 (λv M hR0=>?_)
      obtain ⟨ga,gr,rfl,rfl⟩:=hR0
      refine Sy.callND 10 U kR kR 10 #[.agg (sd.map bv).toArray,.slice (pA gt) 33 33,.slice (pA gr) 1 1,.slice (pA gs) 1 1] kF (CX (Base.of w) dU NU (λ_=>n) zS (.int .i64 en)) (λw' hw=>hsign w' hw gt ga gr gs (hw.get (i:=4) rfl) (hw.get (i:=6) rfl) (hw.get (i:=7) rfl) (hw.get (i:=3) rfl)) (λv M1 hR0=>?_)
      obtain ⟨W1,c1,sa1,sc1,rfl,hU1⟩:=hR0
      refine sZ 11 U (.tuple #[AX dU W1 NU c1,.int .i64 en])<|sZ 12 U (AX dU W1 NU c1)<|Sy.stepDA 13 U kR (λ_ _ _ _ h=>h) kR (.int .i64 en) kF ?_
      exact DG fin (gt,ga,gr,gs,g12,W1,c1,M1) ⟨sa1,sc1,hU1⟩ kR ac4 (Sy.flat_perm (ls:=[zB sd ax ay ai kx g0 g1 g2,[(zX z kx (gs))],[(yT ax ay ai (gt))],[(zW (g12))],[(yA fK n (ga))],[(yR n (ga) (gr))],M1]) (ms:=[zB sd ax ay ai kx g0 g1 g2,[(yT ax ay ai (gt))],[(yA fK n (ga))],[(yR n (ga) (gr))],[(zX z kx (gs))],[(zW (g12))],M1]) [0,2,4,5,1,3,6] kZ (by rfl) (by simp) (by simp))
    ·refine Sy.oneMake U kZ 31 zS33.toArray ptr kF (λg12=>?_)
     refine Sy.callND 2 U kR kR 84 #[pv ax ay ai] kF (CT (dec ax ay ai)) (λw _=>Ci w ax ay ai hax hay) (λv M hR0=>?_)
     obtain ⟨gt,rfl,rfl⟩:=hR0
     refine Sy.callND 5 U kR kR 85 #[.slice A n c,pv ax ay ai] kF (Fb fK n) hc5 (λv M hR0=>?_)
     obtain ⟨ga,gr,rfl,rfl⟩:=hR0
     refine Sy.callND 10 U kR kR 10 #[.agg (sd.map bv).toArray,.slice (pA gt) 33 33,.slice (pA gr) 1 1,.slice (pA gs) 1 1] kF (CX (Base.of w) dU NU (λ_=>n) zS (.int .i64 en)) (λw' hw=>hsign w' hw gt ga gr gs (hw.get (i:=5) rfl) (hw.get (i:=6) rfl) (hw.get (i:=7) rfl) (hw.get (i:=3) rfl)) (λv M1 hR0=>?_)
     obtain ⟨W1,c1,sa1,sc1,rfl,hU1⟩:=hR0
     refine sZ 11 U (.tuple #[AX dU W1 NU c1,.int .i64 en])<|sZ 12 U (AX dU W1 NU c1)<|Sy.stepDA 13 U kR (λ_ _ _ _ h=>h) kR (.int .i64 en) kF ?_
     exact DG fin (gt,ga,gr,gs,g12,W1,c1,M1) ⟨sa1,sc1,hU1⟩ kR ac4 (Sy.flat_perm (ls:=[zB sd ax ay ai kx g0 g1 g2,[(zX z kx (gs))],[(zW (g12))],[(yT ax ay ai (gt))],[(yA fK n (ga))],[(yR n (ga) (gr))],M1]) (ms:=[zB sd ax ay ai kx g0 g1 g2,[(yT ax ay ai (gt))],[(yA fK n (ga))],[(yR n (ga) (gr))],[(zX z kx (gs))],[(zW (g12))],M1]) [0,3,4,5,1,2,6] kZ (by rfl) (by simp) (by simp))
   ·refine Sy.oneMake U kZ 31 zS33.toArray ptr kF (λg12=>?_)
    refine Sy.anyOf [2,9] kZ dZ (Sy.each2 ?_ ?_)
    ·refine Sy.oneCallN U kZ 84 #[pv ax ay ai] kF (CT (dec ax ay ai)) (λw _=>Ci w ax ay ai hax hay) (λv M hR0=>?_)
     obtain ⟨gt,rfl,rfl⟩:=hR0
     refine Sy.anyOf [5,9] kZ dZ (Sy.each2 ?_ ?_)
     ·refine Sy.oneCallN U kZ 85 #[.slice A n c,pv ax ay ai] kF (Fb fK n) hc5 (λv M hR0=>?_)
      obtain ⟨ga,gr,rfl,rfl⟩:=hR0
      refine Sy.makeD 9 U kR kR 44 (CA z kx).toArray (λg=>.slice (pA g) 1 1) kF (λgs=>?_)
      refine Sy.callND 10 U kR kR 10 #[.agg (sd.map bv).toArray,.slice (pA gt) 33 33,.slice (pA gr) 1 1,.slice (pA gs) 1 1] kF (CX (Base.of w) dU NU (λ_=>n) zS (.int .i64 en)) (λw' hw=>hsign w' hw gt ga gr gs (hw.get (i:=4) rfl) (hw.get (i:=5) rfl) (hw.get (i:=6) rfl) (hw.get (i:=7) rfl)) (λv M1 hR0=>?_)
      obtain ⟨W1,c1,sa1,sc1,rfl,hU1⟩:=hR0
      refine sZ 11 U (.tuple #[AX dU W1 NU c1,.int .i64 en])<|sZ 12 U (AX dU W1 NU c1)<|Sy.stepDA 13 U kR (λ_ _ _ _ h=>h) kR (.int .i64 en) kF ?_
      exact DG fin (gt,ga,gr,gs,g12,W1,c1,M1) ⟨sa1,sc1,hU1⟩ kR ac4 (Sy.flat_perm (ls:=[zB sd ax ay ai kx g0 g1 g2,[(zW (g12))],[(yT ax ay ai (gt))],[(yA fK n (ga))],[(yR n (ga) (gr))],[(zX z kx (gs))],M1]) (ms:=[zB sd ax ay ai kx g0 g1 g2,[(yT ax ay ai (gt))],[(yA fK n (ga))],[(yR n (ga) (gr))],[(zX z kx (gs))],[(zW (g12))],M1]) [0,2,3,4,5,1,6] kZ (by rfl) (by simp) (by simp))
     ·refine Sy.oneMake U kZ 44 (CA z kx).toArray (λg=>.slice (pA g) 1 1) kF (λgs=>?_)
      refine Sy.callND 5 U kR kR 85 #[.slice A n c,pv ax ay ai] kF (Fb fK n) hc5 (λv M hR0=>?_)
      obtain ⟨ga,gr,rfl,rfl⟩:=hR0
      refine Sy.callND 10 U kR kR 10 #[.agg (sd.map bv).toArray,.slice (pA gt) 33 33,.slice (pA gr) 1 1,.slice (pA gs) 1 1] kF (CX (Base.of w) dU NU (λ_=>n) zS (.int .i64 en)) (λw' hw=>hsign w' hw gt ga gr gs (hw.get (i:=4) rfl) (hw.get (i:=6) rfl) (hw.get (i:=7) rfl) (hw.get (i:=5) rfl)) (λv M1 hR0=>?_)
      obtain ⟨W1,c1,sa1,sc1,rfl,hU1⟩:=hR0
      refine sZ 11 U (.tuple #[AX dU W1 NU c1,.int .i64 en])<|sZ 12 U (AX dU W1 NU c1)<|Sy.stepDA 13 U kR (λ_ _ _ _ h=>h) kR (.int .i64 en) kF ?_
      exact DG fin (gt,ga,gr,gs,g12,W1,c1,M1) ⟨sa1,sc1,hU1⟩ kR ac4 (Sy.flat_perm (ls:=[zB sd ax ay ai kx g0 g1 g2,[(zW (g12))],[(yT ax ay ai (gt))],[(zX z kx (gs))],[(yA fK n (ga))],[(yR n (ga) (gr))],M1]) (ms:=[zB sd ax ay ai kx g0 g1 g2,[(yT ax ay ai (gt))],[(yA fK n (ga))],[(yR n (ga) (gr))],[(zX z kx (gs))],[(zW (g12))],M1]) [0,2,4,5,3,1,6] kZ (by rfl) (by simp) (by simp))
    ·refine Sy.oneMake U kZ 44 (CA z kx).toArray (λg=>.slice (pA g) 1 1) kF (λgs=>?_)
     refine Sy.callND 2 U kR kR 84 #[pv ax ay ai] kF (CT (dec ax ay ai)) (λw _=>Ci w ax ay ai hax hay) (λv M hR0=>?_)
     obtain ⟨gt,rfl,rfl⟩:=hR0
     refine Sy.callND 5 U kR kR 85 #[.slice A n c,pv ax ay ai] kF (Fb fK n) hc5 (λv M hR0=>?_)
     obtain ⟨ga,gr,rfl,rfl⟩:=hR0
     refine Sy.callND 10 U kR kR 10 #[.agg (sd.map bv).toArray,.slice (pA gt) 33 33,.slice (pA gr) 1 1,.slice (pA gs) 1 1] kF (CX (Base.of w) dU NU (λ_=>n) zS (.int .i64 en)) (λw' hw=>hsign w' hw gt ga gr gs (hw.get (i:=5) rfl) (hw.get (i:=6) rfl) (hw.get (i:=7) rfl) (hw.get (i:=4) rfl)) (λv M1 hR0=>?_)
     obtain ⟨W1,c1,sa1,sc1,rfl,hU1⟩:=hR0
     refine sZ 11 U (.tuple #[AX dU W1 NU c1,.int .i64 en])<|sZ 12 U (AX dU W1 NU c1)<|Sy.stepDA 13 U kR (λ_ _ _ _ h=>h) kR (.int .i64 en) kF ?_
     exact DG fin (gt,ga,gr,gs,g12,W1,c1,M1) ⟨sa1,sc1,hU1⟩ kR ac4 (Sy.flat_perm (ls:=[zB sd ax ay ai kx g0 g1 g2,[(zW (g12))],[(zX z kx (gs))],[(yT ax ay ai (gt))],[(yA fK n (ga))],[(yR n (ga) (gr))],M1]) (ms:=[zB sd ax ay ai kx g0 g1 g2,[(yT ax ay ai (gt))],[(yA fK n (ga))],[(yR n (ga) (gr))],[(zX z kx (gs))],[(zW (g12))],M1]) [0,3,4,5,2,1,6] kZ (by rfl) (by simp) (by simp))
end Cu
end
section
namespace Cu
open Go.RowKit Sy
theorem KV (w:World) (F:AK) (o:Oper) (x:Operand) (u:UInt8) (ho:o.op=.convert 5 3 x) (hx:evF F x=bv u):(execOp (evF F) o).run Tryz.prog w=.ok (.value (iZ u.toNat)) w:=by
 have hu:=u.toNat_lt
 have e:(convert 5 3 (.int .u8 ((u.toNat:Nat):Int))).run Tryz.prog w=.ok (iZ u.toNat) w:=by
  go_simp
  exact D3 om om
 unfold execOp
 simp only [ho,hx,bv,e,Sem.run_bind,Sem.run_pure,Result.andThen_ok]
section
variable (ax ay:Nat) (ai:Bool) (X Y:Nat→Nat) (I:Nat→Bool) (n:Nat) (m:List UInt8)
def sjV:Bool:=Hi (m.drop 1) (λ_=>((n:Nat):Int)) 1 && vfB (Aw (dec ax ay ai)) 1 (λ_=>n) (sjX ax ay ai X Y I) (sjY ax ay ai X Y I) (sjI ax ay ai X Y I) (nmD (m.drop 1) λ_=>n) ((m.drop 1).take 32) 1 (λ_=>n)
def sjB:Bool:=Ee n && (!decide (m.length=0) && (!decide ((m.getD 0 0).toNat≠n) && sjV ax ay ai X Y I n m))
end
theorem IB {w:World} {g o q cp:Nat} {m:List UInt8} (hm:m.length=q) (hq:1≤q) (hcp:q≤cp) (hc:∀ j u,m[j]? = some u→w.cell? ⟨g,o+j,none⟩=some (bv u)) (hg:g<w.heap.size):Sh.Src w (some ⟨g,if cp=1 then o else o+1*1,none⟩) (m.drop 1):=λhne=>by
 have hl:0<(m.drop 1).length:=List.length_pos_iff.2 hne
 rw [List.length_drop] at hl
 refine ⟨g,_,rfl,hg,λj u hj=>?_⟩
 rw [List.getElem?_drop] at hj
 rw [if_neg om,show o+1*1+j=o+(1+j) by omega]
 exact hc _ u hj
theorem Ew (w:World) (A:Option Addr) (n c:Nat) (X Y:Nat→Nat) (I:Nat→Bool) (hX:∀ k,X k<K4) (hY:∀ k,Y k<K4) (hn:n≤9223372036854775807) (ax ay:Nat) (ai:Bool) (hax:ax<K4) (hay:ay<K4) (B:Option Addr) (m:List UInt8) (q cp:Nat) (hm:m.length=q) (hq9:q≤999000000) (hcp:q≤cp) (hcp2:cp≤9223372036854775807) (hs:Sh.Src w B m)
  (hlk:(m.getD 0 0).toNat=n→Lst w 9 A n (λk=>pml (X k) (Y k) (I k))) (ht:Sh.TabAt w 1) :
  Calls Tryz.prog 34 #[.slice A n c,pv ax ay ai,.slice B q cp] w (Gets w (.bool (sjB ax ay ai X Y I n m))):=by
 obtain ⟨b1,hb1⟩:=xE (Ee n)
 unfold sjB
 rw [← hb1]
 refine Sy.enter (args:=[.slice A n c,pv ax ay ai,.slice B q cp]) Tryz.func34 U kL<|sC<|sM 48 (pcs ax ay ai) (λg0=>?_)
 refine sP (.bool false)<|sG<|Sy.seq<|sC<|sP (.slice A n c)<|sP (iZ n)<|sS (.bool b1) (qG 83 #[iZ n] (λw hw=>by rw [hb1]; exact F9 w n hn)) ?_
 cases b1
 ·refine sP (.bool true)<|sP (.bool true)<|sN<|sN<|sN<|sP (.bool true)<|sP (.bool true)<|sN<|sN<|sN<|sN<|sN<|sN<|sN<|sP (.bool true) ?_
  refine sG<|sT<|sC<|sP (.bool false)<|sG<|Sy.ret<|Sy.then_ret ?_
  exact rV (.bool false) rfl
 ·obtain ⟨b2,hb2⟩:=xE (decide (q=0))
  have hn64:n≤64:=(alw_iff.1 hb1.symm).2
  have hn1:1≤n:=(alw_iff.1 hb1.symm).1
  have hn:n≤4611686018427387904:=Nat.le_trans hn64 dZ
  rw [show decide (m.length=0)=b2 from by rw [hm,hb2]]
  refine sP (.bool false)<|sP (.bool false)<|sP (.slice B q cp)<|sP (iZ q)<|sS (.bool b2) (qeq U U U hb2)<|sP (.bool b2)<|sP (.bool b2) ?_
  cases b2
  ·have hq0:=dN hb2
   have hne:m≠[]:=λe=>by rw [e] at hm; exact hq0 hm.symm
   have hA:=hs hne
   obtain ⟨g,o,rfl,hg,hcl⟩:=hA
   obtain ⟨u0,hu0⟩:=xE (m.getD 0 0)
   have h0:m[0]? = some u0:=by
    rw [hu0,List.getD_eq_getElem?_getD,List.getElem?_eq_getElem om]
    rfl
   rw [← hu0] at hlk ⊢
   obtain ⟨b3,hb3⟩:=xE (decide (u0.toNat≠n))
   have hu:=u0.toNat_lt
   rw [← hb3]
   refine sP (.slice (some ⟨g,o,none⟩) q cp)<|sS (.pointer (some ⟨g,o+0*1,none⟩)) (Quiet.pure (BT 24 _ _ _ g o q cp 0 1 .i64 U U U CI kF om))<|sS (bv u0) (Quiet.thereOne g (o+0*1) 5 _ _ U kR hg _ (hcl 0 u0 h0) uy5 U)<|sS (iZ u0.toNat) (Quiet.pure (λw=>KV w _ _ _ u0 U U)) <|
    sP (.slice A n c)<|sP (iZ n)<|sS (.bool b3) (qne U U U hb3)<|sP (.bool b3) ?_
   cases b3
   ·have hun:u0.toNat=n:=Decidable.of_not_not (of_decide_eq_false hb3.symm)
    have hlk:=hlk hun
    obtain ⟨E,hE⟩:∃ E:Nat→Nat,E=λ_=>n:=⟨_,rfl⟩
    have hDI:(λ_:Nat=>(((n:Nat):Int)).toNat)=E:=by rw [hE]; exact funext λ_=>Int.toNat_natCast _
    obtain ⟨b4,hb4⟩:=xE (Hi (m.drop 1) (λ_=>((n:Nat):Int)) 1)
    obtain ⟨d0,hd0_⟩:=xE (uD true b4 ((m.drop 1).take 32))
    obtain ⟨N0,hN0_⟩:=xE (uN true b4 1)
    obtain ⟨s0,hs0_⟩:=xE (nmD (m.drop 1) E)
    have hN0:N0≤1:=by rw [hN0_]; exact Rb
    have hd0:d0.length=32:=by
     rw [hd0_]
     unfold uD
     cases b4 with
     | false=>exact List.length_replicate
     | true=>have:=(IY hb4.symm).2.2.1; show ((m.drop 1).take 32).length=32; rw [List.length_take]; omega
    obtain ⟨fK,hfK⟩:∃ f:Nat→List Value,f=(λj=>pml (pX (BF ax ay ai (X j) (Y j) (I j))) (pY (BF ax ay ai (X j) (Y j) (I j))) (pI (BF ax ay ai (X j) (Y j) (I j)))):=⟨_,rfl⟩
    have hf9:∀ j,(fK j).length=9:=λj=>by rw [hfK]; rfl
    unfold sjV
    rw [← hb4]
    obtain ⟨A2,hA2⟩:∃ a:Addr,a=⟨g,if cp=1 then o else o+1*1,none⟩:=⟨_,rfl⟩
    have hs2:Sh.Src w (some A2) (m.drop 1):=by rw [hA2]; exact IB hm om hcp hcl hg
    refine sG<|sU<|Sy.skip<|sB<|sP (.slice (some ⟨g,o,none⟩) q cp)<|sS (.slice (some A2) (q - 1) (cp - 1)) (Quiet.pure (λw=>by rw [hA2]; exact Fs _ _ _ g o q cp 1 1 .i64 U U U CI kF om w))<|sP (.slice A n c)<|sP (iZ n)<|Sy.make kR 3 #[iZ n] (λg=>.slice (pA g) 1 1) kF (λg1=>?_)
    refine Sy.callN kR 88 #[.slice (some A2) (q - 1) (cp - 1),.slice (pA g1) 1 1] kF (CX (Base.of w) d0 N0 E s0 (.bool b4)) (λw' hw=>by
     have q0:=PR w' (some A2) (m.drop 1) (q - 1) (cp - 1) (by rw [List.length_drop,hm]) om om (hs2.below hw.below) (pA g1) 1 1 (λ_=>((n:Nat):Int)) dZ (DT (hw.get (i:=1) rfl) rfl)
     rw [hDI, ← hb4] at q0
     rw [hd0_,hN0_,hs0_]
     exact Calls.mono q0 (λe w' ⟨v,M,q1,q2,q3⟩=>⟨v,M,q1,DecR.uniC q2,q3⟩)) (λv M1 hR0=>?_)
    obtain ⟨W1,c1,sa1,sc1,rfl,hU1⟩:=hR0
    refine sP (.tuple #[AX d0 W1 N0 c1,.bool b4])<|sP (AX d0 W1 N0 c1)<|sP (.bool b4)<|sM 31 zS33.toArray (λg2=>?_)
    refine Sy.movT<|sW 2 g2 31 zS33.toArray (AM d0 W1 N0 c1).toArray (Writes.row 31 (AM d0 W1 N0 c1) 33 _ _ U kR kR kR (Ag hd0) (by rw [List.size_toArray,Ag List.length_replicate]) BV)<|Sy.setT<|sP (.bool b4)<|sH (λj=>false) ?_
    refine sZ 0 U (.bool b4)<|sZ 1 U (.bool b4) ?_
    cases b4
    ·refine sQ 2 U<|sQ 3 U<|sQ 4 U<|sQ 5 U<|sQ 6 U<|sQ 7 U<|sQ 8 U<|sZ 9 U (.bool false)<|sZ 10 U (.bool false) ?_
     refine sI<|Sy.ret ?_
     exact rV (.bool false) rfl
    ·obtain rfl:1=N0:=hN0_.symm
     obtain ⟨bV,hbV⟩:=xE (vfB (Aw (dec ax ay ai)) 1 (λ_=>n) (sjX ax ay ai X Y I) (sjY ax ay ai X Y I) (sjI ax ay ai X Y I) s0 d0 1 (λ_=>n))
     refine sD 2 U (pv ax ay ai) (qL 0 g0 0 9 48 48 (pcs ax ay ai) rfl Ac)<|sZ 4 U (.slice A n c)<|sD 5 U (pv ax ay ai) (qL 0 g0 0 9 48 48 (pcs ax ay ai) rfl Ac)<|sD 7 U (AX d0 W1 1 c1) (Quiet.load 2 g2 0 33 31 31 (AM d0 W1 1 c1).toArray _ _ U kR kR C8 U kR _ (C_ hd0) (Ek hd0))<|Sy.callND 3 U kR kR 84 #[pv ax ay ai] kF (CT (dec ax ay ai)) (λw _=>Ci w ax ay ai hax hay) (λv M hR0=>?_)
     obtain ⟨gt,rfl,rfl⟩:=hR0
     refine Sy.callND 6 U kR kR 85 #[.slice A n c,pv ax ay ai] kF (Fb fK n) (λw hw=>by rw [hfK]; exact F2 w A n c X Y I hX hY ax ay ai hax hay hn64 (hlk.below hw.below)) (λv M hR0=>?_)
     obtain ⟨ga,gr,rfl,rfl⟩:=hR0
     refine sD 8 U (.bool bV) (qG 12 #[.slice (pA gt) 33 33,.slice (pA gr) 1 1,AX d0 W1 1 c1] (λw' hw=>by
      have h1:=(hw.blk gt 174 ((Aw (dec ax ay ai)).map bv).toArray (by simp)).2
      have h2:=(hw.blk ga 176 (AO (upto n fK (pml 0 0 false)) 64).toArray (by simp)).2
      have h3:=(hw.blk gr 45 #[.slice (pA ga) n n] (by simp)).2
      have u:=hU1.2 w' _ hw (λb hb=>by simp only [List.mem_append]; exact .inl (.inl (.inr hb)))
      rw [hE] at u
      have q0:=Ks w' (pA gt) (Aw (dec ax ay ai)) 33 33 (Ap _) dZ dZ dZ (Sh.Src.of_blk h1) (pA gr) 1 1 (λ_=>some ⟨ga,0,none⟩) (λ_=>n) (λ_=>n) (sjX ax ay ai X Y I) (sjY ax ay ai X Y I) (sjI ax ay ai X Y I) (λ_ _=>Eh _) (λ_ _=>Eg _) dZ (λ_=>hn) (DT h3 U) (λi _=>Mg hf9 hn64 h2 (λj=>by rw [hfK]; rfl)) dZ d0 hd0 W1 1 c1 sa1 (λ_=>n) sc1 s0 (λi k=>by rw [hs0_]; exact Ty _ _) dZ (λ_ _=>hn) u.1 u.2 (ht.below hw.below ht.lt)
      rw [hbV]
      exact q0))<|sZ 9 U (.bool bV)<|sZ 10 U (.bool bV) ?_
     refine sI<|Sy.ret ?_
     rw [hs0_,show d0=(m.drop 1).take 32 from hd0_,hE] at hbV
     rw [← hbV]
     exact rV (.bool bV) rfl
   ·refine sG<|sT<|sC ?_
    refine sP (.bool false)<|sG<|Sy.ret<|Sy.then_ret ?_
    exact rV (.bool false) rfl
  ·refine sN<|sN<|sN<|sN<|sN<|sN<|sN<|sP (.bool true) ?_
   refine sG<|sT<|sC<|sP (.bool false)<|sG<|Sy.ret<|Sy.then_ret ?_
   exact rV (.bool false) rfl
end Cu
end
section
namespace Cu
open Go.RowKit Sy
theorem Mh {s s':Nat→Nat} {bm:List UInt8} {i K:Nat} {X Y:Nat→Nat} {I:Nat→Bool} {x:List UInt8} (h:∀ j,j<K→s j=s' j):∀ k,k≤K→alX s bm i 0 X Y I x k=alX s' bm i 0 X Y I x k
 | 0,_=>rfl
 | k+1,hk=>by rw [C6,C6,Mh h k om,h k om]
section
variable {s s':Nat→Nat→Nat} {bm:List UInt8} {X Y:Nat→Nat→Nat} {I:Nat→Nat→Bool} {d:List UInt8} {N:Nat} {nk:Nat→Nat}
theorem F7 (h:∀ i,i<N→∀ j,j<nk i→s i j=s' i j):∀ k,k≤N→Cv s bm X Y I d nk k=Cv s' bm X Y I d nk k
 | 0,_=>rfl
 | k+1,hk=>by
  show Cv s bm X Y I d nk k++_=Cv s' bm X Y I d nk k++_
  rw [F7 h k om,Mh (h k om) _ (Nat.le_refl _)]
theorem Nv (h:∀ i,i<N→∀ j,j<nk i→s i j=s' i j) (hc:chB s bm X Y I d N N nk nk=true):chB s' bm X Y I d N N nk nk=true:=by
 unfold chB at hc
 rw [Bool.and_eq_true,Bool.and_eq_true] at hc
 refine GO U (λi hi=>?_) (by rw [← F7 h N (Nat.le_refl _)]; exact of_decide_eq_true hc.2.2)
 have q:=List.all_eq_true.1 hc.2.1 i (List.mem_range.2 hi)
 unfold DA at q ⊢
 rw [Bool.and_eq_true] at q ⊢
 refine ⟨q.1,List.all_eq_true.2 λj hj=>?_⟩
 have:=List.all_eq_true.1 q.2 j hj
 rwa [← h i hi j (List.mem_range.1 hj)]
end
section
variable {sd:List UInt8} {ax ay:Nat} {ai:Bool} {X Y:Nat→Nat} {I:Nat→Bool} {n:Nat} {z:Int} {kx:Nat}
theorem OB (h:n≤64):((sjL sd ax ay ai X Y I n z kx).getD 0 0).toNat=n:=by
 show (UInt8.ofNat n).toNat=n
 rw [UInt8.toNat_ofNat']
 omega
theorem OA:(sjL sd ax ay ai X Y I n z kx).length=33+32*n:=by
 unfold sjL
 rw [List.length_cons,List.length_append,Em]
 have e:A4 (λ_=>n) 1=n:=Nat.zero_add n
 rw [e,show (sjD sd ax ay ai X Y I n z).length=32 from E2 _]
 omega
theorem QC (ha:Ee n=true) (hf:sjF ax ay ai X Y I n z kx=true):sjB ax ay ai X Y I n (sjL sd ax ay ai X Y I n z kx)=true:=by
 have hn:=alw_iff.1 ha
 have hd:(sjD sd ax ay ai X Y I n z).length=32:=E2 _
 have hdec:=RE (s:=sjS sd ax ay ai X Y I n z kx) (sn:=λ_=>n) (N:=1) hd dZ dZ (λ_ _=>hn)
 have hl:(sjL sd ax ay ai X Y I n z kx).drop 1=sjD sd ax ay ai X Y I n z++Ef (sjS sd ax ay ai X Y I n z kx) (λ_=>n) 1:=rfl
 have hlen:=OA (sd:=sd) (ax:=ax) (ay:=ay) (ai:=ai) (X:=X) (Y:=Y) (I:=I) (n:=n) (z:=z) (kx:=kx)
 have hft:=IV (show true=D2 (λ_=>z) (λ_=>kx) (λ_=>n) (sjX ax ay ai X Y I) (sjY ax ay ai X Y I) (sjI ax ay ai X Y I) 1 1 from hf.symm)
 have hch:chB (sjS sd ax ay ai X Y I n z kx) (sjM ax ay ai X Y I n) (sjX ax ay ai X Y I) (sjY ax ay ai X Y I) (sjI ax ay ai X Y I) (sjD sd ax ay ai X Y I n z) 1 1 (λ_=>n) (λ_=>n)=true:=PZ (at_:=λ_=>z.toNat) (sx:=λ_=>kx) (λ_ _=>rfl) (λi hi=>⟨(hft.2 i hi).2.1,(hft.2 i hi).2.2⟩)
 have hch2:=Nv (s':=nmD ((sjL sd ax ay ai X Y I n z kx).drop 1) λ_=>n) (λi hi j hj=>by rw [hl,PI hd hi hj]; exact (L8 _ _).symm) hch
 unfold sjB sjV
 rw [ha,decide_eq_false (by omega:¬ (sjL sd ax ay ai X Y I n z kx).length=0),OB hn.2,decide_eq_false (by simp:¬ n≠n),hl,hdec,List.take_left' hd]
 unfold vfB
 rw [Jo ax ay ai X Y I ha]
 rw [hl] at hch2
 show (!false && (!false && (true && (true && _))))=true
 simp only [Bool.not_false,Bool.true_and]
 exact hch2
end
theorem NQ {x y:Nat} (h:dec x y false≠none∨True):BF x y false x y false=none:=by
 unfold BF
 exact Ec.add_neg _
theorem Mk:sjF gx.val gy.val false (λ_=>gx.val) (λ_=>gy.val) (λ_=>false) 1 0 0=true:=by
 unfold sjF
 refine KK U λj hj=>?_
 obtain rfl:j=0:=om
 have q:=Lc (At:=λ_=>(0:Int)) (sx:=λ_=>0) (n:=λ_=>1) (X:=sjX gx.val gy.val false (λ_=>gx.val) (λ_=>gy.val) (λ_=>false)) (Y:=sjY gx.val gy.val false (λ_=>gx.val) (λ_=>gy.val) (λ_=>false)) (I:=sjI gx.val gy.val false (λ_=>gx.val) (λ_=>gy.val) (λ_=>false)) (k:=0) (q:=0) (by show ¬ (0:Int)<0; decide) (by show ¬ (0:Int) ≥ ((1:Nat):Int); decide) rfl
 rw [q]
 show DD 0 (pX (BF gx.val gy.val false gx.val gy.val false)) (pY (BF gx.val gy.val false gx.val gy.val false)) (pI (BF gx.val gy.val false gx.val gy.val false))=true
 rw [NQ (.inr trivial)]
 unfold DD
 rw [show evP 0=none from rfl]
 exact Kx _ _ _
theorem RV (w:World) (ht:Sh.TabAt w 1):Calls Tryz.prog 33 #[] w (Gets w (.bool true)):=by
 refine Sy.enter (args:=[]) Tryz.func33 U kL<|sC<|sP (.bool false)<|sA<|sS (pv gx.val gy.val false) (qF 16 #[] (Md))<|Sy.make kR 48 (pcs gx.val gy.val false) (λg=>.slice (pA g) 1 1) kF (λg0=>?_)
 refine sP (.slice (pA g0) 1 1)<|sA<|sP (.agg ((List.replicate 32 (0:UInt8)).map bv).toArray)<|sP (.slice (pA g0) 1 1)<|sP (.slice (pA g0) 1 1)<|sP (pT g0 0)<|sS (pv gx.val gy.val false) (qL 0 g0 0 9 48 48 (pcs gx.val gy.val false) rfl Ac)<|sP (fv 0)<|Sy.callN kR 31 #[.agg ((List.replicate 32 (0:UInt8)).map bv).toArray,.slice (pA g0) 1 1,pv gx.val gy.val false,.int .i64 0,fv 0] kF _ (λw' hw=>Jz w' (List.replicate 32 0) List.length_replicate (pA g0) 1 1 (λ_=>gx.val) (λ_=>gy.val) (λ_=>false) (λ_=>lt4 _) (λ_=>lt4 _) dZ (DT (hw.get (i:=0) rfl) rfl) gx.val gy.val false (lt4 _) (lt4 _) 0 0 dZ (ht.below hw.below ht.lt)) (λv M hR0=>?_)
 rcases hR0 with ⟨h,_⟩ | ⟨_,h,_⟩ | ⟨_,_,y,rfl,rfl,hy⟩
 ·cases h
 ·rw [Mk] at h; cases h
 obtain ⟨l,hl⟩:=xE (sjL (List.replicate 32 0) gx.val gy.val false (λ_=>gx.val) (λ_=>gy.val) (λ_=>false) 1 0 0)
 have hlen:l.length=65:=by rw [hl]; exact OA
 have hback:sjB gx.val gy.val false (λ_=>gx.val) (λ_=>gy.val) (λ_=>false) 1 l=true:=by rw [hl]; exact QC U Mk
 rw [← hl] at hy
 obtain ⟨A3,c3,hv3,hl3,hc3,hs3⟩:=K1 hy
 refine sP (.tuple #[y.v,.int .i64 0])<|sP y.v<|sP (.int .i64 0)<|sP y.v<|sP (.int .i64 0)<|sA<|sP (.int .i64 0)<|sP (.bool true)<|sP (.bool true)<|sP y.v<|sS (iZ 65) (Quiet.lenR hy (by rw [A6]; exact hlen) _ CI U kR)<|sP (.bool true)<|sP (.bool true)<|sP (.bool true) <|
  sP (.slice (pA g0) 1 1)<|sP (.slice (pA g0) 1 1)<|sP (pT g0 0)<|sS (pv gx.val gy.val false) (qL 0 g0 0 9 48 48 (pcs gx.val gy.val false) rfl Ac)<|sP y.v <|
  sS (.bool true) (qG 34 #[.slice (pA g0) 1 1,pv gx.val gy.val false,y.v] (λw' hw=>by
   have q:=Ew w' (pA g0) 1 1 (λ_=>gx.val) (λ_=>gy.val) (λ_=>false) (λ_=>lt4 _) (λ_=>lt4 _) dZ gx.val gy.val false (lt4 _) (lt4 _) A3 l l.length c3 U om hl3 (Nat.le_trans hc3 dZ) (hs3 hw (λb hb=>List.mem_append.2 (.inr hb))) (λ_=>DT (hw.get (i:=0) rfl) rfl) (ht.below hw.below ht.lt)
   rw [hback] at q
   rw [hv3]
   exact q))<|sP (.bool true)<|sP (.bool true) ?_
 refine sG<|Sy.ret ?_
 exact rV (.bool true) rfl
end Cu
end
section
namespace Cu
open Go.ChangeShapes Go.WideShapes Go.ChangeAt Go.RowKit Sy Go.Deep
end Cu
end
section
namespace Cu
open Go.ChangeShapes Go.WideShapes Go.ChangeAt Go.RowKit Sy Go.Deep
theorem open_pts {H:Type} {enc:TypeId×Value→H} {W:World} {r:Reach} {b0:Nat} {v:Value} {d:DataW H} {ps:List MemPlace}
  (hval:Value.okWide Tryz.prog W r b0 45 v) (h:DataW.Trod enc Tryz.prog W 0 (λ_=>true) true 45 v d ps) :
  ∃ (A:Option Addr) (n c:Nat) (X Y:Nat→Nat) (I:Nat→Bool),v=.slice A n c∧(∀ k,X k<K4)∧(∀ k,Y k<K4)∧n≤9223372036854775807∧Lst W 9 A n (λk=>pml (X k) (Y k) (I k)):=by
 obtain ⟨a0,len,cap,rfl⟩:=okWide_slice CH hval
 obtain ⟨fuel,hf⟩:=h
 obtain ⟨A,m,c,T,e1,hm,hc,hT,_,hls,_⟩:=LE (P:=Tryz.prog) Pr.cells Pr.ok (λ_=>0) 9 dZ (λ_=>rfl) ⟨Lu,Lu⟩ rfl CH kZ
  (λfuel cs x hl hf=>by
   obtain ⟨y,h1,h2⟩:=OZ fuel cs x hl hf
   exact ⟨y,h1,h2,Nat.zero_le _⟩) hf
 simp [Value.cells] at e1
 obtain ⟨rfl,rfl,rfl⟩:=e1
 exact ⟨_,_,_,λj=>(T j).x,λj=>(T j).y,λj=>(T j).i,rfl,λj=>(hT j).1,λj=>(hT j).2,Nat.le_trans hm hc,hls⟩
end Cu
end
end Go.Proofs.YtbjmjcpdonochaaGreatDoor
