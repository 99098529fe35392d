/-
  Texts of ours, put together: RingW, RingY, ScInv, ScRefPow, RingX, RingZ, RingAA, RingAB, RingAC, RingVerifiesL.
-/
import Derived.Test.YtlooclodlpcglaaGreatDoorBV7
set_option linter.unusedVariables false
set_option linter.unusedSimpArgs false
namespace Go.Proofs.YtlooclodlpcglaaGreatDoor
section
namespace Cu
open Go.RowKit Sy
set_option maxHeartbeats 4000000 in
set_option maxRecDepth 100000 in
theorem FT (w:World) (A:Option Addr) (m:List UInt8) (n c:Nat) (hm:m.length=n) (hm9:n≤999000000) (hc:n≤c) (hc2:c≤9223372036854775807) (hs0:Sh.Src w A m) (R:Option Addr) (NR cR:Nat) (a:Nat→Option Addr) (nk ck:Nat→Nat) (X Y:Nat→Nat→Nat) (I:Nat→Nat→Bool) (hX:∀ i k,X i k<K4) (hY:∀ i k,Y i k<K4) (hNR:NR≤4611686018427387904) (hnk:∀ i,nk i≤4611686018427387904) (hlr:Lst w 1 R NR (λi=>[.slice (a i) (nk i) (ck i)])) (hlk:∀ i,i<NR→Lst w 9 (a i) (nk i) (λk=>pml (X i k) (Y i k) (I i k))) (d:List UInt8) (hd:d.length=32) (W:Option Addr) (NW cW:Nat) (sa:Nat→Option Addr) (sn sc:Nat→Nat) (s:Nat→Nat→Nat) (hsc:∀ i k,s i k<K4) (hNW:NW≤4611686018427387904) (hsn9:∀ i,i<NW→sn i≤4611686018427387904) (hlw:Lst w 1 W NW (λi=>[.slice (sa i) (sn i) (sc i)])) (hls:∀ i,i<NW→Lst w 4 (sa i) (sn i) (λk=>fws (s i k))) (htr:Sh.TabAt w 0):Calls Tryz.prog 19 #[.slice A n c,.slice R NR cR,Ar d W NW cW] w (Gets w (.bool (vfB m NR nk X Y I s d NW sn))):=by
 have hlr0:=hlr
 obtain ⟨gR,oR,hR⟩:=hlr
 obtain ⟨gW,oW,hW⟩:=hlw
 refine Sy.enter (args:=[.slice A n c,.slice R NR cR,Ar d W NW cW]) Tryz.func19 rfl kL ?_
 refine sC ?_
 refine sM 31 (AK d W NW cW).toArray (λg0=>?_)
 refine sP (.bool false) ?_
 refine sA ?_
 refine sP (.slice R NR cR) ?_
 obtain ⟨b1,hb1⟩:∃ z:Bool,z=Bp NR nk X Y I:=⟨_,rfl⟩
 refine sS (.bool b1) (qG 46 #[.slice R NR cR] (λw hw=>by rw [hb1]; exact N6 w R NR cR a nk ck X Y I hX hY hNR hnk (hlr0.below hw.below) (λi hi=>(hlk i hi).below hw.below)))<|sP (.bool b1) ?_
 refine sG<|Sy.seq<|sC ?_
 refine sP (.bool b1) ?_
 cases b1
 ·refine sP (.bool true)<|sP (.bool true) ?_
  refine sN<|sN<|sN<|sN<|sN<|sN ?_
  refine sP (.bool true) ?_
  refine sG<|sT<|sC ?_
  refine sP (.bool false) ?_
  refine sG<|Sy.ret<|Sy.then_ret ?_
  rw [show (.bool (vfB m NR nk X Y I s d NW sn):Value)=.bool false from by unfold vfB; rw [← hb1]; rfl]
  exact rV (.bool false) rfl
 ·obtain ⟨hN32,hn64,hn1,hN1⟩:=DC hb1
  refine sP (.bool false)<|sP (.bool false)<|sP (.pointer (some ⟨g0,32,none⟩))<|sS (.slice W NW cW) (Quiet.cell 0 g0 32 31 29 (AK d W NW cW).toArray _ _ rfl kR kR Tryz.underlying29 rfl _ (Cb hd))<|sP (.int .i64 ((NW:Nat):Int))<|sP (.slice R NR cR)<|sP (.int .i64 ((NR:Nat):Int)) ?_
  obtain ⟨b2,hb2⟩:∃ z:Bool,z=decide (NW≠NR):=⟨_,rfl⟩
  refine sS (.bool b2) (Quiet.pure (AC .neq _ _ _ .i64 _ _ _ rfl rfl rfl (Bl _ _ _ _ _ (by rw [hb2]; exact decide_eq_decide.2 (by omega)))))<|sP (.bool b2) ?_
  refine sG ?_
  cases b2
  ·have lb2:¬ (NW≠NR):=of_decide_eq_false hb2.symm
   obtain rfl:NR=NW:=by omega
   refine sU<|Sy.skip<|sB ?_
   refine sP (.slice A n c)<|sP (.slice R NR cR) ?_
   obtain ⟨bM,hbM⟩:∃ l,l=rgM m NR nk X Y I:=⟨_,rfl⟩
   have hbl:bM.length=32:=by rw [hbM]; exact DW _ _ _ _ _ _
   refine Sy.callN kR 21 #[.slice A n c,.slice R NR cR] kF ((λvq Mq=>∃ (g:Nat) (sp:List Value) (cap:Nat),vq=.slice (some ⟨g,0,none⟩) 32 cap∧(32≤cap∧cap≤9223372036854775807)∧Mq=[(g,5,(bM.map bv++sp).toArray)])) (λw hw=>by rw [hbM]; exact N8 w A m n c hm hm9 hc hc2 (hs0.below hw.below) R NR cR a nk ck X Y I hX hY hNR hnk (hlr0.below hw.below) (λi hi=>(hlk i hi).below hw.below) hN32 hn64 (htr.below hw.below htr.lt)) (λvq Mq hR0=>?_)
   obtain ⟨qx,spx,cpx,rfl,hcx,rfl⟩:=hR0
   refine sP (.slice (some ⟨qx,0,none⟩) 32 cpx) ?_
   refine sA ?_
   refine sP (.slice (some ⟨qx,0,none⟩) 32 cpx) ?_
   refine Sy.make kR 24 #[.slice (some ⟨qx,0,none⟩) 32 cpx] (λg=>.slice (some ⟨g,0,none⟩) 1 1) kF (λg1=>?_)
   refine sP (.slice (some ⟨g1,0,none⟩) 1 1) ?_
   refine sG<|Sy.seq<|sC ?_
   refine sP (.int .i64 0) ?_
   refine sG<|Sy.block ?_
   refine Sy.loopH NR (λk1=>∀ i,i<k1→C2 s sn nk i=true) (λk1=>[(1,.slice R NR cR),(5,.pointer (some ⟨g0,0,none⟩)),(8,.slice (some ⟨qx,0,none⟩) 32 cpx),(9,.slice (some ⟨g1,0,none⟩) 1 1),(10,.int .i64 ((k1:Nat):Int))]) (λk1=>[(g0,31,(AK d W NR cW).toArray),(qx,5,(bM.map bv++spx).toArray),(g1,24,#[.slice (some ⟨qx,0,none⟩) 32 cpx])]) [true,true,true] (M:=[(g0,31,(AK d W NR cW).toArray),(qx,5,(bM.map bv++spx).toArray),(g1,24,#[.slice (some ⟨qx,0,none⟩) 32 cpx])]) (λj hj=>absurd hj (Nat.not_lt_zero _)) ac5 kR (AM rfl (AM rfl (AM rfl rfl))) (λk1 hk1 hh=>?_)
   have hh1:=hh
   refine Sy.seq<|sC ?_
   refine sP (.int .i64 ((k1:Nat):Int))<|sP (.slice R NR cR)<|sP (.int .i64 ((NR:Nat):Int)) ?_
   obtain ⟨b3,hb3⟩:∃ z:Bool,z=decide (k1<NR):=⟨_,rfl⟩
   refine sS (.bool b3) (Quiet.pure (AC .lss _ _ _ .i64 _ _ _ rfl rfl rfl (AY _ _ _ _ _ (by rw [hb3]; exact decide_eq_decide.2 (by omega))))) ?_
   refine sG ?_
   cases b3
   ·have lb3:¬ (k1<NR):=of_decide_eq_false hb3.symm
    refine sU<|Sy.exit<|Sy.then_exit<|Sy.then_exit ?_
    obtain rfl:NR=k1:=by omega
    have hrow:=hh1
    refine Sy.in_exit<|Sy.then_<|Sy.seq<|sC ?_
    refine sP (.int .i64 0) ?_
    refine sG<|Sy.block ?_
    refine Sy.loopT (Y:=Slc×AE×List Sh.Tx) NR (λk1 y1=>[(1,.slice R NR cR),(5,.pointer (some ⟨g0,0,none⟩)),(8,.slice (some ⟨qx,0,none⟩) 32 cpx),(9,y1.1.v),(12,.int .i64 ((k1:Nat):Int))]) (λk1 y1=>[(g0,31,(AK d W NR cW).toArray)]++(y1.1.bl++(y1.2.1++([])))) (λk1 y1=>TxsIs (Base.of w) 24 y1.1 y1.2.1 y1.2.2∧Sh.cat y1.2.2=bM++DJ s bM X Y I d nk k1∧y1.2.2.length=k1+1∧(qx,5,(bM.map bv++spx).toArray)∈y1.2.1) (⟨.slice (some ⟨g1,0,none⟩) 1 1,[(g1,24,#[.slice (some ⟨qx,0,none⟩) 32 cpx])]⟩,[(qx,5,(bM.map bv++spx).toArray)],[(⟨some ⟨qx,0,none⟩,bM,cpx⟩:Sh.Tx)]) ⟨TxsIs.own _ (LV hbl) (λv L hv hb=>Io (hv.blk _ _ _ (hb _ (List.mem_singleton.2 rfl))).2 hbl hcx),by simp [Sh.cat,DJ],rfl,List.mem_singleton.2 rfl⟩ ac5 (λw hw=>hw.perm (Ij (m:=[(g0,31,(AK d W NR cW).toArray),(g1,24,#[.slice (some ⟨qx,0,none⟩) 32 cpx]),(qx,5,(bM.map bv++spx).toArray)]) [0,2,1] kR (by rfl))) (λk1 y1 hk1 hh1=>?_)
    have hmT:=hh1.2.2.2
    refine Sy.seq<|sC ?_
    refine sP (.int .i64 ((k1:Nat):Int))<|sP (.slice R NR cR)<|sP (.int .i64 ((NR:Nat):Int)) ?_
    obtain ⟨b4,hb4⟩:∃ z:Bool,z=decide (k1<NR):=⟨_,rfl⟩
    refine sS (.bool b4) (Quiet.pure (AC .lss _ _ _ .i64 _ _ _ rfl rfl rfl (AY _ _ _ _ _ (by rw [hb4]; exact decide_eq_decide.2 (by omega))))) ?_
    refine sG ?_
    cases b4
    ·have lb4:¬ (k1<NR):=of_decide_eq_false hb4.symm
     refine sU<|Sy.exit<|Sy.then_exit<|Sy.then_exit ?_
     obtain rfl:NR=k1:=by omega
     refine Sy.in_exit ?_
     refine sR (λj=>false) ?_
     refine sZ 0 rfl (y1.1.v) ?_
     obtain ⟨d0,hd0⟩:∃ l,l=rgT bM (DJ s bM X Y I d nk NR):=⟨_,rfl⟩
     have hdl:d0.length=32:=by rw [hd0]; exact Fs _ _
     refine sD 1 rfl (.agg (d0.map bv).toArray) (qG 51 #[.string rgFirst,y1.1.v] (λw hw=>by obtain ⟨Q,dd,hv,hc9,_,htx⟩:=hh1.1.texts; rw [hv,hd0]; have hel:=FK (s:=s) (bm:=bM) (X:=X) (Y:=Y) (I:=I) (nk:=nk) hd NR; have hcat:=hh1.2.1; have q:=Sh.taggedR_any w rgFirst Q y1.2.2 dd (htx hw (λb hb=>(List.mem_append.2 (.inr (List.mem_append.2 (.inl hb))))) (λb hb=>(List.mem_append.2 (.inr (List.mem_append.2 (.inr (List.mem_append.2 (.inl hb)))))))) (htr.below hw.below htr.lt) (by decide) (by rw [hcat,List.length_append]; omega) (by omega); rw [hcat] at q; exact q))<|sZ 2 rfl (.pointer (some ⟨g0,0,none⟩))<|sD 3 rfl (.agg (d.map bv).toArray) (Quiet.load 0 g0 0 32 31 23 (AK d W NR cW).toArray _ _ rfl kR kR Tryz.underlying23 rfl kR _ (Eh hd) (Fo hd)) ?_
     obtain ⟨b5,hb5⟩:∃ z:Bool,z=decide (d0=d):=⟨_,rfl⟩
     refine sD 4 rfl (.bool b5) (Quiet.pure (λw=>by rw [hb5]; exact LD w _ _ _ _ d0 d hdl hd rfl rfl rfl))<|sZ 5 rfl (.bool b5) ?_
     refine sI ?_
     refine Sy.ret ?_
     rw [show (.bool (vfB m NR nk X Y I s d NR sn):Value)=.bool b5 from by unfold vfB; rw [← hb1, ← hbM]; by_cases hq:d0=d; { rw [I2 rfl hrow (by rw [← hd0]; exact hq),hb5,decide_eq_true hq]; rfl }; { rw [L8 (by rw [← hd0]; exact hq),hb5,decide_eq_false hq]; rfl }]
     exact rV (.bool b5) rfl
    ·have lb4:k1<NR:=of_decide_eq_true hb4.symm
     have hnk1:=hn64 k1 lb4
     have hnk0:=hn1 k1 lb4
     obtain ⟨gK,oK,hT⟩:=hlk k1 lb4
     obtain ⟨gS,oS,hS⟩:=hls k1 lb4
     have hsn8:=hsn9 k1 lb4
     have hsn:=(rowOk_iff.1 (hrow k1 lb4)).1
     refine sT<|Sy.skip<|Sy.then_<|Sy.seq<|Sy.block<|Sy.seq ?_
     refine Sy.regionD (λj=>false) kR ?_
     refine sZ 0 rfl (.slice (some ⟨qx,0,none⟩) 32 cpx)<|sZ 1 rfl (.int .i64 ((k1:Nat):Int))<|sZ 2 rfl (.slice R NR cR)<|sZ 3 rfl (.int .i64 ((k1:Nat):Int))<|sD 4 rfl (.pointer (some ⟨gR,oR+k1*1,none⟩)) (Quiet.pure (AJ 25 _ _ _ R gR oR NR cR k1 1 .i64 (hR (by omega)).1 rfl rfl rfl Tryz.underlying25 kF (by omega)))<|sD 5 rfl (.slice (a k1) (nk k1) (ck k1)) (Quiet.thereOne gR (oR+k1*1) 49 _ _ rfl kR (hR (by omega)).2.1 _ (AR ((hR (by omega)).2.2 k1 (by omega)) 0 rfl) Tryz.underlying49 rfl)<|sZ 6 rfl (.pointer (some ⟨g0,0,none⟩))<|sD 7 rfl (.agg (d.map bv).toArray) (Quiet.load 0 g0 0 32 31 23 (AK d W NR cW).toArray _ _ rfl kR kR Tryz.underlying23 rfl kR _ (Eh hd) (Fo hd)) ?_
     refine sZ 8 rfl (.pointer (some ⟨g0,32,none⟩))<|sD 9 rfl (.slice W NR cW) (Quiet.cell 0 g0 32 31 29 (AK d W NR cW).toArray _ _ rfl kR kR Tryz.underlying29 rfl _ (Cb hd))<|sZ 10 rfl (.int .i64 ((k1:Nat):Int))<|sD 11 rfl (.pointer (some ⟨gW,oW+k1*1,none⟩)) (Quiet.pure (AJ 29 _ _ _ W gW oW NR cW k1 1 .i64 (hW (by omega)).1 rfl rfl rfl Tryz.underlying29 kF (by omega)))<|sD 12 rfl (.slice (sa k1) (sn k1) (sc k1)) (Quiet.thereOne gW (oW+k1*1) 55 _ _ rfl kR (hW (by omega)).2.1 _ (AR ((hW (by omega)).2.2 k1 (by omega)) 0 rfl) Tryz.underlying55 rfl)<|sZ 13 rfl (.slice R NR cR)<|sZ 14 rfl (.int .i64 ((k1:Nat):Int))<|sD 15 rfl (.pointer (some ⟨gR,oR+k1*1,none⟩)) (Quiet.pure (AJ 25 _ _ _ R gR oR NR cR k1 1 .i64 (hR (by omega)).1 rfl rfl rfl Tryz.underlying25 kF (by omega))) ?_
     refine sD 16 rfl (.slice (a k1) (nk k1) (ck k1)) (Quiet.thereOne gR (oR+k1*1) 49 _ _ rfl kR (hR (by omega)).2.1 _ (AR ((hR (by omega)).2.2 k1 (by omega)) 0 rfl) Tryz.underlying49 rfl)<|sZ 17 rfl (.int .i64 (((nk k1):Nat):Int)) ?_
     refine Sy.callND 18 rfl kR kR 24 #[.slice (some ⟨qx,0,none⟩) 32 cpx,.int .i64 ((k1:Nat):Int),.slice (a k1) (nk k1) (ck k1),.agg (d.map bv).toArray,.slice (sa k1) (sn k1) (sc k1),.int .i64 (((nk k1):Nat):Int)] kF (EsR (s k1) bM k1 (X k1) (Y k1) (I k1) d (nk k1)) (λw hw=>L0 w (some ⟨qx,0,none⟩) bM cpx hbl hcx.1 hcx.2 (D5 (hw.blk _ _ _ (List.mem_append.2 (.inr (List.mem_append.2 (.inr (List.mem_append.2 (.inl hmT))))))).2) k1 (by omega) (a k1) (nk k1) (ck k1) (X k1) (Y k1) (I k1) (hX k1) (hY k1) ((hlk k1 (by omega)).below hw.below) d hd (sa k1) (sn k1) (sc k1) (s k1) (hsc k1) ((hls k1 (by omega)).below hw.below) (nk k1) (by omega) (by omega) (by omega) (htr.below hw.below htr.lt)) (λvq Mq hR0=>?_)
     obtain ⟨ye,xte,xe,rfl,rfl,hye,hxe⟩:=hR0
     refine Sy.permD Sy.end_front2 ?_
     refine Sy.permD (M:=[(g0,31,(AK d W NR cW).toArray)]++(ye.bl++(xe++(y1.1.bl++(y1.2.1++([])))))) (by exact List.Perm.refl _) ?_
     refine sZ 19 rfl (.tuple #[ye.v,.slice xte.A (Bg (nk k1)) xte.c])<|sZ 20 rfl (ye.v)<|sZ 21 rfl (.slice xte.A (Bg (nk k1)) xte.c)<|sZ 22 rfl (ye.v)<|sZ 23 rfl (.slice xte.A (Bg (nk k1)) xte.c) ?_
     refine sI ?_
     refine Sy.region ?_
     refine sP (y1.1.v)<|sP (.slice xte.A (Bg (nk k1)) xte.c) ?_
     refine Sy.make kR 24 #[.slice xte.A (Bg (nk k1)) xte.c] (λg=>.slice (some ⟨g,0,none⟩) 1 1) kF (λg2=>?_)
     refine Sy.movT ?_
     refine Sy.permS (M:=[(g0,31,(AK d W NR cW).toArray),(g2,24,#[.slice xte.A (Bg (nk k1)) xte.c])]++(y1.1.bl++(ye.bl++(xe++(y1.2.1++([])))))) (Sy.flat_perm (ls:=[[(g0,31,(AK d W NR cW).toArray),(g2,24,#[.slice xte.A (Bg (nk k1)) xte.c])],ye.bl,xe,y1.1.bl,y1.2.1]) (ms:=[[(g0,31,(AK d W NR cW).toArray),(g2,24,#[.slice xte.A (Bg (nk k1)) xte.c])],y1.1.bl,ye.bl,xe,y1.2.1]) [0,3,1,2,4] kR (by rfl) (by rfl) (by rfl)) ?_
     refine Sy.appendR kR 86 24 _ _ 1 24 Tryz.underlying86 Db rfl rfl rfl rfl (by decide) _ _ rfl hh1.1.row kR [.slice xte.A (Bg (nk k1)) xte.c] rfl (Gb _ _ _) 1 g2 24 kR kR (by rw [List.length_map,hh1.2.2.1]; omega) (by rw [List.length_map,hh1.2.2.1]; simp only [maxLen]; omega) (λr1 hr1=>?_)
     refine sP (r1.v) ?_
     refine Sy.nil<|Sy.in_<|Sy.then_<|Sy.region ?_
     refine sP (.int .i64 ((k1:Nat):Int))<|sS (.int .i64 ((k1+1:Nat):Int)) (Quiet.pure (AC .add _ _ _ .i64 _ _ _ rfl rfl rfl (AO _ _ _ _ _ ((AH (by omega) (by omega)).trans (by omega)))))<|sP (.int .i64 ((k1+1:Nat):Int)) ?_
     refine Sy.nil ?_
     exact Sy.againT ((r1,y1.2.1++xe,y1.2.2++[xte])) (by omega) (⟨hh1.1.add xte xe hr1 hxe.val hxe.ok,by rw [Et,hh1.2.1,List.append_assoc,hxe.li]; rfl,by rw [List.length_append,hh1.2.2.1]; rfl,List.mem_append.2 (.inl hmT)⟩) ac5 (λw hw=>by simpa only [List.append_assoc] using (St.parts (ls:=[[(g0,31,(AK d W NR cW).toArray)],[(g2,24,#[.slice xte.A (Bg (nk k1)) xte.c])],r1.bl,ye.bl,xe,y1.2.1]) (ms:=[[(g0,31,(AK d W NR cW).toArray)],r1.bl,y1.2.1,xe]) [[(g2,24,#[.slice xte.A (Bg (nk k1)) xte.c])],ye.bl] [0,2,5,4,1,3] kR (by rfl) (by rfl) (by rfl) hw))
   ·have lb3:k1<NR:=of_decide_eq_true hb3.symm
    have hnk1:=hn64 k1 lb3
    have hnk0:=hn1 k1 lb3
    obtain ⟨gK,oK,hT⟩:=hlk k1 lb3
    obtain ⟨gS,oS,hS⟩:=hls k1 lb3
    have hsn8:=hsn9 k1 lb3
    refine sT<|Sy.skip<|Sy.then_<|Sy.seq<|Sy.block<|Sy.seq<|Sy.seq ?_
    refine Sy.regionD (λj=>false) kR ?_
    refine sZ 0 rfl (.pointer (some ⟨g0,32,none⟩))<|sD 1 rfl (.slice W NR cW) (Quiet.cell 0 g0 32 31 29 (AK d W NR cW).toArray _ _ rfl kR kR Tryz.underlying29 rfl _ (Cb hd))<|sZ 2 rfl (.int .i64 ((k1:Nat):Int))<|sD 3 rfl (.pointer (some ⟨gW,oW+k1*1,none⟩)) (Quiet.pure (AJ 29 _ _ _ W gW oW NR cW k1 1 .i64 (hW (by omega)).1 rfl rfl rfl Tryz.underlying29 kF (by omega)))<|sD 4 rfl (.slice (sa k1) (sn k1) (sc k1)) (Quiet.thereOne gW (oW+k1*1) 55 _ _ rfl kR (hW (by omega)).2.1 _ (AR ((hW (by omega)).2.2 k1 (by omega)) 0 rfl) Tryz.underlying55 rfl)<|sZ 5 rfl (.int .i64 (((sn k1):Nat):Int))<|sZ 6 rfl (.slice R NR cR)<|sZ 7 rfl (.int .i64 ((k1:Nat):Int)) ?_
    refine sD 8 rfl (.pointer (some ⟨gR,oR+k1*1,none⟩)) (Quiet.pure (AJ 25 _ _ _ R gR oR NR cR k1 1 .i64 (hR (by omega)).1 rfl rfl rfl Tryz.underlying25 kF (by omega)))<|sD 9 rfl (.slice (a k1) (nk k1) (ck k1)) (Quiet.thereOne gR (oR+k1*1) 49 _ _ rfl kR (hR (by omega)).2.1 _ (AR ((hR (by omega)).2.2 k1 (by omega)) 0 rfl) Tryz.underlying49 rfl)<|sZ 10 rfl (.int .i64 (((nk k1):Nat):Int)) ?_
    obtain ⟨b6,hb6⟩:∃ z:Bool,z=decide ((sn k1)≠(nk k1)):=⟨_,rfl⟩
    refine sD 11 rfl (.bool b6) (Quiet.pure (AC .neq _ _ _ .i64 _ _ _ rfl rfl rfl (Bl _ _ _ _ _ (by rw [hb6]; exact decide_eq_decide.2 (by omega))))) ?_
    refine sI ?_
    cases b6
    ·have lb6:¬ ((sn k1)≠(nk k1)):=of_decide_eq_false hb6.symm
     have hsn:sn k1=nk k1:=by omega
     refine sU<|Sy.skip<|sB ?_
     refine sP (.int .i64 0) ?_
     refine sG<|Sy.block ?_
     refine Sy.loopH (sn k1) (λk2=>∀ j,j<k2→s k1 j%Sc.pM=s k1 j) (λk2=>[(1,.slice R NR cR),(5,.pointer (some ⟨g0,0,none⟩)),(8,.slice (some ⟨qx,0,none⟩) 32 cpx),(9,.slice (some ⟨g1,0,none⟩) 1 1),(10,.int .i64 ((k1:Nat):Int)),(11,.int .i64 ((k2:Nat):Int))]) (λk2=>[(g0,31,(AK d W NR cW).toArray),(qx,5,(bM.map bv++spx).toArray),(g1,24,#[.slice (some ⟨qx,0,none⟩) 32 cpx])]) [true,true,true] (M:=[(g0,31,(AK d W NR cW).toArray),(qx,5,(bM.map bv++spx).toArray),(g1,24,#[.slice (some ⟨qx,0,none⟩) 32 cpx])]) (λi hi=>absurd hi (Nat.not_lt_zero _)) ac6 kR (AM rfl (AM rfl (AM rfl rfl))) (λk2 hk2 hh=>?_)
     have hh2:=hh
     refine Sy.seq<|sC ?_
     refine sP (.int .i64 ((k2:Nat):Int))<|sP (.pointer (some ⟨g0,32,none⟩))<|sS (.slice W NR cW) (Quiet.cell 0 g0 32 31 29 (AK d W NR cW).toArray _ _ rfl kR kR Tryz.underlying29 rfl _ (Cb hd))<|sP (.int .i64 ((k1:Nat):Int))<|sS (.pointer (some ⟨gW,oW+k1*1,none⟩)) (Quiet.pure (AJ 29 _ _ _ W gW oW NR cW k1 1 .i64 (hW (by omega)).1 rfl rfl rfl Tryz.underlying29 kF (by omega)))<|sS (.slice (sa k1) (sn k1) (sc k1)) (Quiet.thereOne gW (oW+k1*1) 55 _ _ rfl kR (hW (by omega)).2.1 _ (AR ((hW (by omega)).2.2 k1 (by omega)) 0 rfl) Tryz.underlying55 rfl)<|sP (.int .i64 (((sn k1):Nat):Int)) ?_
     obtain ⟨b7,hb7⟩:∃ z:Bool,z=decide (k2<(sn k1)):=⟨_,rfl⟩
     refine sS (.bool b7) (Quiet.pure (AC .lss _ _ _ .i64 _ _ _ rfl rfl rfl (AY _ _ _ _ _ (by rw [hb7]; exact decide_eq_decide.2 (by omega))))) ?_
     refine sG ?_
     cases b7
     ·have lb7:¬ (k2<(sn k1)):=of_decide_eq_false hb7.symm
      refine sU<|Sy.exit<|Sy.then_exit<|Sy.then_exit ?_
      obtain rfl:sn k1=k2:=by omega
      refine Sy.in_exit<|Sy.in_<|Sy.then_<|Sy.region ?_
      refine sP (.int .i64 ((k1:Nat):Int))<|sS (.int .i64 ((k1+1:Nat):Int)) (Quiet.pure (AC .add _ _ _ .i64 _ _ _ rfl rfl rfl (AO _ _ _ _ _ ((AH (by omega) (by omega)).trans (by omega)))))<|sP (.int .i64 ((k1+1:Nat):Int)) ?_
      refine Sy.nil ?_
      exact Sy.againH [true,true,true] (M:=[(g0,31,(AK d W NR cW).toArray),(qx,5,(bM.map bv++spx).toArray),(g1,24,#[.slice (some ⟨qx,0,none⟩) 32 cpx])]) (by omega) (λi hi=>(Nat.lt_succ_iff_lt_or_eq.1 hi).elim (hh1 i) (λh=>by subst h; exact E6 hsn (λj hj=>hh2 j (by omega)))) ac5 kR (AM rfl (AM rfl (AM rfl rfl)))
     ·have lb7:k2<(sn k1):=of_decide_eq_true hb7.symm
      refine sT<|Sy.skip<|Sy.then_<|Sy.seq<|Sy.block<|Sy.seq ?_
      refine Sy.regionD (λj=>false) kR ?_
      refine sZ 0 rfl (.pointer (some ⟨g0,32,none⟩))<|sD 1 rfl (.slice W NR cW) (Quiet.cell 0 g0 32 31 29 (AK d W NR cW).toArray _ _ rfl kR kR Tryz.underlying29 rfl _ (Cb hd))<|sZ 2 rfl (.int .i64 ((k1:Nat):Int))<|sD 3 rfl (.pointer (some ⟨gW,oW+k1*1,none⟩)) (Quiet.pure (AJ 29 _ _ _ W gW oW NR cW k1 1 .i64 (hW (by omega)).1 rfl rfl rfl Tryz.underlying29 kF (by omega)))<|sD 4 rfl (.slice (sa k1) (sn k1) (sc k1)) (Quiet.thereOne gW (oW+k1*1) 55 _ _ rfl kR (hW (by omega)).2.1 _ (AR ((hW (by omega)).2.2 k1 (by omega)) 0 rfl) Tryz.underlying55 rfl)<|sZ 5 rfl (.int .i64 ((k2:Nat):Int))<|sD 6 rfl (.pointer (some ⟨gS,oS+k2*4,none⟩)) (Quiet.pure (AJ 55 _ _ _ (sa k1) gS oS (sn k1) (sc k1) k2 4 .i64 (hS (by omega)).1 rfl rfl rfl Tryz.underlying55 kF (by omega)))<|sD 7 rfl (fv (s k1 k2)) (Quiet.there gS (oS+k2*4) 4 46 (fws (s k1 k2)) _ _ rfl kR (hS (by omega)).2.1 ((hS (by omega)).2.2 k2 (by omega)) Tryz.underlying46 rfl kR rfl _ rfl) ?_
      refine sD 8 rfl (fv (s k1 k2%Sc.pM)) (qF 26 #[fv (s k1 k2)] (λw=>Ln w (s k1 k2) (hsc k1 k2)))<|sZ 9 rfl (.pointer (some ⟨g0,32,none⟩))<|sD 10 rfl (.slice W NR cW) (Quiet.cell 0 g0 32 31 29 (AK d W NR cW).toArray _ _ rfl kR kR Tryz.underlying29 rfl _ (Cb hd))<|sZ 11 rfl (.int .i64 ((k1:Nat):Int))<|sD 12 rfl (.pointer (some ⟨gW,oW+k1*1,none⟩)) (Quiet.pure (AJ 29 _ _ _ W gW oW NR cW k1 1 .i64 (hW (by omega)).1 rfl rfl rfl Tryz.underlying29 kF (by omega)))<|sD 13 rfl (.slice (sa k1) (sn k1) (sc k1)) (Quiet.thereOne gW (oW+k1*1) 55 _ _ rfl kR (hW (by omega)).2.1 _ (AR ((hW (by omega)).2.2 k1 (by omega)) 0 rfl) Tryz.underlying55 rfl)<|sZ 14 rfl (.int .i64 ((k2:Nat):Int))<|sD 15 rfl (.pointer (some ⟨gS,oS+k2*4,none⟩)) (Quiet.pure (AJ 55 _ _ _ (sa k1) gS oS (sn k1) (sc k1) k2 4 .i64 (hS (by omega)).1 rfl rfl rfl Tryz.underlying55 kF (by omega))) ?_
      refine sD 16 rfl (fv (s k1 k2)) (Quiet.there gS (oS+k2*4) 4 46 (fws (s k1 k2)) _ _ rfl kR (hS (by omega)).2.1 ((hS (by omega)).2.2 k2 (by omega)) Tryz.underlying46 rfl kR rfl _ rfl) ?_
      obtain ⟨b8,hb8⟩:∃ z:Bool,z=decide ((s k1 k2%Sc.pM)≠(s k1 k2)):=⟨_,rfl⟩
      refine sD 17 rfl (.bool b8) (Quiet.pure (λw=>by rw [hb8,decide_not]; exact Kv w _ _ _ _ _ _ rfl rfl rfl (Sc.mod_lt _) (hsc _ _))) ?_
      refine sI ?_
      cases b8
      ·have lb8:¬ ((s k1 k2%Sc.pM)≠(s k1 k2)):=of_decide_eq_false hb8.symm
       have hnorm:s k1 k2%Sc.pM=s k1 k2:=Decidable.of_not_not lb8
       refine sU<|Sy.skip<|Sy.in_<|Sy.then_<|Sy.region ?_
       refine sP (.int .i64 ((k2:Nat):Int))<|sS (.int .i64 ((k2+1:Nat):Int)) (Quiet.pure (AC .add _ _ _ .i64 _ _ _ rfl rfl rfl (AO _ _ _ _ _ ((AH (by omega) (by omega)).trans (by omega)))))<|sP (.int .i64 ((k2+1:Nat):Int)) ?_
       refine Sy.nil ?_
       exact Sy.againH [true,true,true] (M:=[(g0,31,(AK d W NR cW).toArray),(qx,5,(bM.map bv++spx).toArray),(g1,24,#[.slice (some ⟨qx,0,none⟩) 32 cpx])]) (by omega) (λj hj=>(Nat.lt_succ_iff_lt_or_eq.1 hj).elim (hh2 j) (λh=>by subst h; exact hnorm)) ac6 kR (AM rfl (AM rfl (AM rfl rfl)))
      ·have lb8:(s k1 k2%Sc.pM)≠(s k1 k2):=of_decide_eq_true hb8.symm
       refine sT<|sC ?_
       refine sP (.bool false) ?_
       refine sG<|Sy.ret<|Sy.in_ret<|Sy.then_ret<|Sy.then_ret<|Sy.in_ret<|Sy.in_ret<|Sy.then_ret<|Sy.then_ret<|Sy.in_ret<|Sy.then_ret ?_
       rw [show (.bool (vfB m NR nk X Y I s d NR sn):Value)=.bool false from by unfold vfB; rw [← hb1,F3 (k:=k1) (by assumption) (Hp (j:=k2) (by assumption) lb8)]; rfl]
       exact rV (.bool false) rfl
    ·have lb6:(sn k1)≠(nk k1):=of_decide_eq_true hb6.symm
     refine sT<|sC ?_
     refine sP (.bool false) ?_
     refine sG<|Sy.ret<|Sy.then_ret<|Sy.in_ret<|Sy.then_ret<|Sy.then_ret<|Sy.in_ret<|Sy.then_ret ?_
     rw [show (.bool (vfB m NR nk X Y I s d NR sn):Value)=.bool false from by unfold vfB; rw [← hb1,F3 (k:=k1) (by assumption) (Hq lb6)]; rfl]
     exact rV (.bool false) rfl
  ·have lb2:NW≠NR:=of_decide_eq_true hb2.symm
   refine sT<|sC ?_
   refine sP (.bool false) ?_
   refine sG<|Sy.ret<|Sy.then_ret ?_
   rw [show (.bool (vfB m NR nk X Y I s d NW sn):Value)=.bool false from by unfold vfB; rw [← hb1,L7 lb2]; rfl]
   exact rV (.bool false) rfl
end Cu
end
section
namespace Cu
open Go.RowKit Sy
def Bo (z:Int) (x:Nat):Value:=.agg (Ai z x).toArray
theorem Hv (z:Int) (x:Nat) (W:World):(part 3 (Ai z x).toArray 0).run Tryz.prog W=.ok (.int .i64 z) W:=by
 have h1:=Tryz.isAgg3
 have h2:(Ai z x).toArray[0]? = some (.int .i64 z):=rfl
 simp [part,h1,h2,go_sem]
theorem Jc (z:Int) (x:Nat) (W:World):(part 46 (Ai z x).toArray 1).run Tryz.prog W=.ok (fv x) W:=by
 have h1:=Tryz.isAgg46
 have h2:=Tryz.sizeOf46
 have h3:((Ai z x).toArray).extract 1 (1+4)=fcs x:=rfl
 simp [part,h1,h2,go_sem]
 rfl
theorem My (W:World) (n m:Nat) (hn:n<K4) (hm:m<K4):(Op.equalIn 9999 46 (fv n) (fv m)).run Tryz.prog W=.ok (decide (n=m)) W:=by
 have h:=BI W 9997 46 44 4 Tryz.underlying46 Tryz.underlying44 (λW=>by kernel_rfl) (wl n) (wl m) rfl rfl
 rw [GA hn hm] at h
 exact h
theorem LC (W:World) (a b:Int):(Op.equalIn 9999 3 (.int .i64 a) (.int .i64 b)).run Tryz.prog W=.ok (decide (a=b)) W:=by
 have hu:=Tryz.underlying3
 rw [show (9999:Nat)=9998+1 from rfl,Op.equalIn]
 simp [hu,go_sem]
 by_cases h:a=b <;> simp [h]
def CH (z:Int) (x:Nat) (u:Int) (y:Nat):Bool:=decide (z=u) && decide (x=y)
theorem JR (W:World) (z:Int) (x:Nat) (u:Int) (y:Nat) (hx:x<K4) (hy:y<K4) :
  (binOp .eql 48 (Bo z x) (Bo u y)).run Tryz.prog W=.ok (.bool (CH z x u y)) W:=by
 have hS:Tryz.prog.underlying 48=some (.struct (Tryz.prog.fieldsOf 48)):=by kernel_rfl
 have hpp:Tryz.prog.stoodInHeld 48=false:=by kernel_rfl
 unfold Bo
 rw [run_eql_struct,show (10000:Nat)=9999+1 from rfl,run_equalIn_struct W 9999 48 _ _ hS hpp]
 simp only [Program.fieldsOf,Tryz.underlying48]
 have a1:=λW=>Hv z x W
 have a2:=λW=>Hv u y W
 have a3:=λW=>Jc z x W
 have a4:=λW=>Jc u y W
 have e1:∀ W,_:=λW=>LC W z u
 have e2:∀ W,_:=λW=>My W x y hx hy
 unfold CH
 generalize decide (z=u)=b1 at *
 generalize decide (x=y)=b2 at *
 cases b1 <;> cases b2 <;> simp [Op.eqFields,a1,a2,a3,a4,e1,e2,Sem.run_bind,Sem.run_ite]
theorem Fg (op:BinOp) (x y:Operand) (z:Int) (a:Nat) (u:Int) (b:Nat) (W:World):(eqGuard op 48 x y (Bo z a) (Bo u b)).run Tryz.prog W=.ok () W:=by
 unfold Bo
 go_simp
theorem PW (w:World) (F:AU) (o:Oper) (x y:Operand) (z:Int) (a:Nat) (u:Int) (b:Nat) {yt:TypeId} (ho:o.op=.binOp .neq 48 x y yt) (hx:evF F x=Bo z a) (hy:evF F y=Bo u b) (ha:a<K4) (hb:b<K4):(execOp (evF F) o).run Tryz.prog w=.ok (.value (.bool (!CH z a u b))) w:=by
 have h1:=Fg .neq x y z a u b w
 have h2:=JR w z a u b ha hb
 have h3:(binOp .neq 48 (Bo z a) (Bo u b)).run Tryz.prog w=.ok (.bool (!CH z a u b)) w:=by
  unfold Bo at h2 ⊢
  rw [run_eql_struct] at h2
  rw [run_neq_struct]
  generalize (Op.equalIn 10000 48 (Value.agg (Ai z a).toArray) (Value.agg (Ai u b).toArray)).run Tryz.prog w=r at h2 ⊢
  revert h2
  cases r <;> simp <;> intros <;> simp_all
 unfold execOp
 simp only [ho,hx,hy,Sem.run_bind,h1,h3,Result.andThen_ok,Sem.run_pure]
def Do (At:Nat→Int) (sx:Nat→Nat) (NS:Nat) (Bt:Nat→Int) (sy:Nat→Nat) (NT:Nat):Bool:=decide (NS=NT) && (List.range NS).all λi=>CH (At i) (sx i) (Bt i) (sy i)
section
variable {At Bt:Nat→Int} {sx sy:Nat→Nat} {NS NT:Nat}
theorem NP (h:NS≠NT):Do At sx NS Bt sy NT=false:=by unfold Do; rw [decide_eq_false h]; rfl
theorem O7 {k:Nat} (hk:k<NS) (h:CH (At k) (sx k) (Bt k) (sy k)=false):Do At sx NS Bt sy NT=false:=by
 unfold Do
 rw [show ((List.range NS).all λi=>CH (At i) (sx i) (Bt i) (sy i))=false from List.all_eq_false.2 ⟨k,List.mem_range.2 hk,by rw [h]; decide⟩,Bool.and_false]
theorem JM (h0:NS=NT) (h:∀ i,i<NS→CH (At i) (sx i) (Bt i) (sy i)=true):Do At sx NS Bt sy NT=true:=by
 unfold Do
 rw [decide_eq_true h0,List.all_eq_true.2 λi hi=>h i (List.mem_range.1 hi)]
 rfl
theorem MQ:Do At sx NS At sx NS=true:=JM rfl λi _=>by unfold CH; simp
end
set_option maxHeartbeats 4000000 in
set_option maxRecDepth 100000 in
theorem MS (w:World) (S:Option Addr) (NS cS:Nat) (At:Nat→Int) (sx:Nat→Nat) (hsx:∀ i,sx i<K4) (hNS:NS≤4611686018427387904) (hls:Lst w 5 S NS (λi=>Ai (At i) (sx i))) (T:Option Addr) (NT cT:Nat) (Bt:Nat→Int) (sy:Nat→Nat) (hsy:∀ i,sy i<K4) (hNT:NT≤4611686018427387904) (hlt:Lst w 5 T NT (λi=>Ai (Bt i) (sy i))):Calls Tryz.prog 20 #[.slice S NS cS,.slice T NT cT] w (Gets w (.bool (Do At sx NS Bt sy NT))):=by
 obtain ⟨gS,oS,hS⟩:=hls
 obtain ⟨gT,oT,hT⟩:=hlt
 refine Sy.enter (args:=[.slice S NS cS,.slice T NT cT]) Tryz.func20 rfl kL ?_
 refine sC ?_
 refine sP (.bool false) ?_
 refine sG<|Sy.seq<|sC ?_
 refine sP (.slice S NS cS)<|sP (.int .i64 ((NS:Nat):Int))<|sP (.slice T NT cT)<|sP (.int .i64 ((NT:Nat):Int)) ?_
 obtain ⟨b1,hb1⟩:∃ z:Bool,z=decide (NS≠NT):=⟨_,rfl⟩
 refine sS (.bool b1) (Quiet.pure (AC .neq _ _ _ .i64 _ _ _ rfl rfl rfl (Bl _ _ _ _ _ (by rw [hb1]; exact decide_eq_decide.2 (by omega))))) ?_
 refine sG ?_
 cases b1
 ·have lb1:¬ (NS≠NT):=of_decide_eq_false hb1.symm
  have hNN:NS=NT:=by omega
  refine sU<|Sy.skip<|Sy.then_<|Sy.seq<|sC ?_
  refine sP (.slice S NS cS)<|sP (.int .i64 ((NS:Nat):Int))<|sP (.int .i64 0) ?_
  refine sG<|Sy.block ?_
  refine Sy.loopH NS (λk1=>∀ i,i<k1→CH (At i) (sx i) (Bt i) (sy i)=true) (λk1=>[(0,.slice S NS cS),(1,.slice T NT cT),(12,.int .i64 ((NS:Nat):Int)),(13,.int .i64 ((k1:Nat):Int))]) (λk1=>[]) [] (M:=[]) (λi hi=>absurd hi (Nat.not_lt_zero _)) ac4 kR rfl (λk1 hk1 hh=>?_)
  have hh1:=hh
  refine sC ?_
  obtain ⟨b2,hb2⟩:∃ z:Bool,z=decide (k1<NS):=⟨_,rfl⟩
  refine sS (.bool b2) (Quiet.pure (AC .lss _ _ _ .i64 _ _ _ rfl rfl rfl (AY _ _ _ _ _ (by rw [hb2]; exact decide_eq_decide.2 (by omega))))) ?_
  refine sG<|Sy.seq ?_
  cases b2
  ·have lb2:¬ (k1<NS):=of_decide_eq_false hb2.symm
   refine sU<|Sy.exit<|Sy.then_exit<|Sy.then_exit ?_
   obtain rfl:NS=k1:=by omega
   refine Sy.in_exit<|sB ?_
   refine sP (.bool true) ?_
   refine sG<|Sy.ret ?_
   rw [show (.bool (Do At sx NS Bt sy NT):Value)=.bool true from by rw [JM hNN (λi hi=>hh1 i (by omega))]]
   exact rV (.bool true) rfl
  ·have lb2:k1<NS:=of_decide_eq_true hb2.symm
   refine sT<|Sy.skip<|Sy.then_<|Sy.seq<|Sy.block<|sC ?_
   refine sP (.int .i64 ((k1:Nat):Int))<|sP (.int .i64 ((k1:Nat):Int)) ?_
   refine sH (λj=>false) ?_
   refine sZ 0 rfl (.slice S NS cS)<|sZ 1 rfl (.int .i64 ((k1:Nat):Int))<|sD 2 rfl (.pointer (some ⟨gS,oS+k1*5,none⟩)) (Quiet.pure (AJ 26 _ _ _ S gS oS NS cS k1 5 .i64 (hS (by omega)).1 rfl rfl rfl Tryz.underlying26 kF (by omega)))<|sD 3 rfl (Bo (At k1) (sx k1)) (Quiet.there gS (oS+k1*5) 5 48 (Ai (At k1) (sx k1)) _ _ rfl kR (hS (by omega)).2.1 ((hS (by omega)).2.2 k1 (by omega)) Tryz.underlying48 rfl kR rfl _ rfl)<|sZ 4 rfl (.slice T NT cT)<|sZ 5 rfl (.int .i64 ((k1:Nat):Int))<|sD 6 rfl (.pointer (some ⟨gT,oT+k1*5,none⟩)) (Quiet.pure (AJ 26 _ _ _ T gT oT NT cT k1 5 .i64 (hT (by omega)).1 rfl rfl rfl Tryz.underlying26 kF (by omega)))<|sD 7 rfl (Bo (Bt k1) (sy k1)) (Quiet.there gT (oT+k1*5) 5 48 (Ai (Bt k1) (sy k1)) _ _ rfl kR (hT (by omega)).2.1 ((hT (by omega)).2.2 k1 (by omega)) Tryz.underlying48 rfl kR rfl _ rfl) ?_
   obtain ⟨b3,hb3⟩:∃ z:Bool,z=!CH (At k1) (sx k1) (Bt k1) (sy k1):=⟨_,rfl⟩
   refine sD 8 rfl (.bool b3) (Quiet.pure (λw=>by rw [hb3]; exact PW w _ _ _ _ _ _ _ _ rfl rfl rfl (hsx _) (hsy _))) ?_
   refine sI ?_
   cases b3
   ·have hsm:CH (At k1) (sx k1) (Bt k1) (sy k1)=true:=by rw [← Bool.not_not (CH _ _ _ _), ← hb3]; rfl
    refine sU<|Sy.skip<|Sy.in_<|Sy.then_<|Sy.region ?_
    refine sS (.int .i64 ((k1+1:Nat):Int)) (Quiet.pure (AC .add _ _ _ .i64 _ _ _ rfl rfl rfl (AO _ _ _ _ _ ((AH (by omega) (by omega)).trans (by omega)))))<|sP (.int .i64 ((k1+1:Nat):Int)) ?_
    refine Sy.nil ?_
    exact Sy.againH [] (M:=[]) (by omega) (λi hi=>(Nat.lt_succ_iff_lt_or_eq.1 hi).elim (hh1 i) (λh=>by subst h; exact hsm)) ac4 kR rfl
   ·refine sT<|sC ?_
    refine sP (.bool false) ?_
    refine sG<|Sy.ret<|Sy.in_ret<|Sy.then_ret<|Sy.then_ret<|Sy.in_ret<|Sy.then_ret ?_
    rw [show (.bool (Do At sx NS Bt sy NT):Value)=.bool false from by rw [O7 (k:=k1) (by assumption) (by rw [← Bool.not_not (CH _ _ _ _), ← hb3]; rfl)]]
    exact rV (.bool false) rfl
 ·have lb1:NS≠NT:=of_decide_eq_true hb1.symm
  refine sT<|sC ?_
  refine sP (.bool false) ?_
  refine sG<|Sy.ret<|Sy.then_ret ?_
  rw [show (.bool (Do At sx NS Bt sy NT):Value)=.bool false from by rw [NP lb1]]
  exact rV (.bool false) rfl
end Cu
end
section
namespace Sc
open Go.RowKit Go.Lib
def pwI (x e:Nat):Nat:=x ^ e%pM
theorem Ie (x e:Nat):pwI x e<(2^256):=mod_lt _
def sqI (x:Nat):Nat→Nat
 | 0=>x
 | n+1=>mulP (sqI x n) (sqI x n)
theorem EQ (x n:Nat) (hx:x<(2^256)):sqI x n<(2^256):=by
 cases n with
 | zero=>exact hx
 | succ n=>exact F0 _ _
theorem La (x:Nat):∀ n,sqI x n%pM=x ^ (2 ^ n)%pM
 | 0=>by rw [Nat.pow_zero,Nat.pow_one]; rfl
 | n+1=>by
  rw [sqI,mulP,Nat.mod_mod,Nat.mul_mod,La x n, ← Nat.mul_mod, ← Nat.pow_add,Nat.pow_succ,Nat.mul_two]
theorem El (x e n:Nat):mulP (pwI x e) (sqI x n)=pwI x (e+2 ^ n):=by
 unfold mulP pwI
 rw [Nat.mod_mul_mod,Nat.mul_mod,La, ← Nat.mul_mod, ← Nat.pow_add]
theorem Nn (x:Nat):pwI x 0=1:=by unfold pwI; rw [Nat.pow_zero]; decide
theorem P3 (a r s:Nat) (hs:s≤63):(a+18446744073709551616*r) / 2 ^ s%2=a / 2 ^ s%2:=by
 obtain ⟨u,hu⟩:∃ u,2 ^ s*(2*u)=18446744073709551616:=by
  refine ⟨2 ^ (63 - s),?_⟩
  have:2 ^ s*2 ^ (63 - s)=2 ^ 63:=by rw [← Nat.pow_add]; congr 1; omega
  rw [show (2:Nat)*2 ^ (63 - s)=2 ^ (63 - s)*2 from Nat.mul_comm _ _, ← Nat.mul_assoc,this]
 rw [← hu,Nat.mul_assoc,Nat.add_mul_div_left _ _ (Nat.two_pow_pos s),Nat.mul_assoc,Nat.add_mul_mod_self_left]
theorem F1 (e i s w r:Nat) (hz:e / 2 ^ (64*i)=w+18446744073709551616*r) (hs:s≤63):e%2 ^ (64*i+(s+1))=e%2 ^ (64*i+s)+2 ^ (64*i+s)*(w / 2 ^ s%2):=by
 have h1:e / 2 ^ (64*i+s)%2=w / 2 ^ s%2:=by
  rw [Nat.pow_add, ← Nat.div_div_eq_div_mul,hz,P3 w r s hs]
 rw [← h1, ← Nat.add_assoc,Nat.pow_succ,Nat.mod_mul]
theorem EF (a b:Nat):a+b*0=a:=rfl
theorem EG (a b:Nat):a+b*1=a+b:=by rw [Nat.mul_one]
theorem F5 (e s:Nat) (he:e<18446744073709551616):bits .and .u64 ((e:Int) / 2 ^ s) 1=((e / 2 ^ s%2:Nat):Int):=by
 have h:((e:Int) / 2 ^ s)=((e / 2 ^ s:Nat):Int):=by simp
 rw [h]
 exact MB _ (Nat.lt_of_le_of_lt (Nat.div_le_self _ _) he)
set_option maxHeartbeats 8000000 in
set_option maxRecDepth 100000 in
theorem inv_any (w:World) (x:Nat) (hx:x<(2^256)):Calls Tryz.prog 175 #[fv x] w λe w'=>e=.returned (fv (pwI x (115792089237316195423570985008687907852837564279074904382605163141518161494337 - 2)))∧Below w.heap.size w w':=by
 obtain ⟨o,ho⟩:∃ o,o=115792089237316195423570985008687907852837564279074904382605163141518161494337:=⟨_,rfl⟩
 obtain ⟨two,h2⟩:∃ n,n=2:=⟨_,rfl⟩
 obtain ⟨one,h1⟩:∃ n,n=1:=⟨_,rfl⟩
 obtain ⟨e,he⟩:∃ e,e=115792089237316195423570985008687907852837564279074904382605163141518161494337 - 2:=⟨_,rfl⟩
 rw [← he]
 have lo:o<(2^256):=by omega
 have le:e<(2^256):=by omega
 have co:=λw=>GY w o ho
 have c2:∀ w,Calls Tryz.prog 135 #[.int .u64 2] w λe w'=>e=.returned (fv two)∧Below w.heap.size w w':=λw=>of_at w two 2 (by rw [h2]; rfl) (by omega)
 have c1:∀ w,Calls Tryz.prog 135 #[.int .u64 1] w λe w'=>e=.returned (fv one)∧Below w.heap.size w w':=λw=>of_at w one 1 (by rw [h1]; rfl) (by omega)
 have cm:∀ w,Calls Tryz.prog 212 #[fv o,fv two] w λr w'=>r=.returned (.tuple #[fv e,.int .u64 ((0:Nat):Int)])∧Below w.heap.size w w':=λw=>Dt w o two e 0 lo (by omega) le (by omega)
 obtain ⟨e0,e1,e2,e3,b0,b1,b2,b3,ee,fe⟩:=Ag e le
 have n0:=λs hs=>F1 e 0 s e0 (e1+18446744073709551616*e2+340282366920938463463374607431768211456*e3) (by omega) hs
 have n1:=λs hs=>F1 e 1 s e1 (e2+18446744073709551616*e3) (by omega) hs
 have n2:=λs hs=>F1 e 2 s e2 e3 (by omega) hs
 have n3:=λs hs=>F1 e 3 s e3 0 (by omega) hs
 have HN:=Lib.hid (And.intro n0 (And.intro n1 (And.intro n2 n3)))
 have HB:=Lib.hid (And.intro b0 (And.intro b1 (And.intro b2 b3)))
 have HE:Hid (e%2 ^ (64*0)=0∧e%2 ^ (64*3+64)=e):=Lib.hid ⟨by omega,by omega⟩
 have FE:=Lib.hid fe
 have H1:=Lib.hid h1
 obtain ⟨x0,x1,x2,x3,fx⟩:=AZ x hx
 have FX:=Lib.hid fx
 have HX:=Lib.hid hx
 rw [fx]
 clear fx hx ho h2 h1 he lo le b0 b1 b2 b3 ee fe n0 n1 n2 n3
 go_enter Tryz.func175,Tryz.ntmps175
 go_wp2_with fail
 refine (co _).mono ?_
 rintro r w1 ⟨rfl,k1⟩
 go_wp2_with fail
 refine (c2 _).mono ?_
 rintro r w2 ⟨rfl,k2⟩
 go_wp2_with fail
 refine (cm _).mono ?_
 rintro r w3 ⟨rfl,k3⟩
 have BX:=Gr.blk k3 (Gr.blk k2 (Gr.blk k1 ((Blk.new w _ _).alloc _)))
 have BR:=Gr.blk k3 (Gr.blk k2 (Gr.blk k1 (Aa w _ _ _)))
 have hB:=Below.gr (Below.gr (Below.gr (Ad w _ _) k1) k2) k3
 have sz3:w.heap.size+1<w3.heap.size:=BR.lt
 clear k1 k2 k3 co c2 cm
 go_wp2_with (first | ((with_reducible refine AF ?_); refine AB rfl _ _ _ rfl (w3.heap.size) (fcs (e)) rfl rfl _ _ (Blk.new w3 _ _) (by kernel_rfl) (by rfl) (AG _) ?_; intro w4 hL4 hq4 hK4; have BX4:=hK4 _ (by omega) _ _ (BX.alloc _); have BR4:=hK4 _ (by omega) _ _ (BR.alloc _); have hB4:=(hB.alloc (by omega) _).trans (hq4 _ (by omega))))
 refine (c1 _).mono ?_
 rintro r w5 ⟨rfl,k1⟩
 have BX:=Gr.blk k1 BX4
 have BR:=Gr.blk k1 BR4
 have BE:=Gr.blk k1 hL4
 have hB:=Below.gr hB4 k1
 have sz5:w3.heap.size<w5.heap.size:=BE.lt
 clear k1 c1
 go_wp2_with (first | ((with_reducible refine AF ?_); refine AB rfl _ _ _ rfl (w5.heap.size) (fcs (one)) rfl rfl _ _ (Blk.new w5 _ _) (by kernel_rfl) (by rfl) (AG _) ?_; intro w6 hL6 hq6 hK6; have BX6:=hK6 _ (by omega) _ _ (BX.alloc _); have BR6:=hK6 _ (by omega) _ _ (BR.alloc _); have BE6:=hK6 _ (by omega) _ _ (BE.alloc _); have hB6:=(hB.alloc (by omega) _).trans (hq6 _ (by omega))) | ((with_reducible refine AD (d:=some 16) ?_); refine AA rfl _ _ rfl (w3.heap.size) rfl (e) _ _ _ (BE6) (AL e) Tryz.underlying46 rfl (by kernel_rfl) ?_))
 have BXa:Blk w6 w.heap.size 46 (fcs x):=BX6.eq_ (A_ FX.out).symm
 have BPa:Blk w6 w5.heap.size 46 (fcs (pwI x (e%2 ^ (64*0)))):=hL6.eq_ (by rw [HE.out.1,Nn,H1.out])
 clear BX6 hL6
 rw [FE.out]
 have ie0:∀ W,(Instr.index 46 (.agg #[.int .u64 (e0:Int),.int .u64 (e1:Int),.int .u64 (e2:Int),.int .u64 (e3:Int)]) (.int .i64 0)).run Tryz.prog W=.ok (.int .u64 (e0:Int)) W:=λW=>by kernel_rfl
 have ie1:∀ W,(Instr.index 46 (.agg #[.int .u64 (e0:Int),.int .u64 (e1:Int),.int .u64 (e2:Int),.int .u64 (e3:Int)]) (.int .i64 1)).run Tryz.prog W=.ok (.int .u64 (e1:Int)) W:=λW=>by kernel_rfl
 have ie2:∀ W,(Instr.index 46 (.agg #[.int .u64 (e0:Int),.int .u64 (e1:Int),.int .u64 (e2:Int),.int .u64 (e3:Int)]) (.int .i64 2)).run Tryz.prog W=.ok (.int .u64 (e2:Int)) W:=λW=>by kernel_rfl
 have ie3:∀ W,(Instr.index 46 (.agg #[.int .u64 (e0:Int),.int .u64 (e1:Int),.int .u64 (e2:Int),.int .u64 (e3:Int)]) (.int .i64 3)).run Tryz.prog W=.ok (.int .u64 (e3:Int)) W:=λW=>by kernel_rfl
 go_loopw [17] (λi wr=>Below w.heap.size w wr∧Blk wr (w.heap.size+1) 46 #[.int .u64 0,.int .u64 0,.int .u64 0,.int .u64 0]∧Hid ((i=.int .i64 0∧Blk wr w.heap.size 46 (fcs x)∧Blk wr w5.heap.size 46 (fcs (pwI x (e%2 ^ (64*0)))))∨(i=.int .i64 1∧Blk wr w.heap.size 46 (fcs (sqI x (64*1)))∧Blk wr w5.heap.size 46 (fcs (pwI x (e%2 ^ (64*1)))))∨(i=.int .i64 2∧Blk wr w.heap.size 46 (fcs (sqI x (64*2)))∧Blk wr w5.heap.size 46 (fcs (pwI x (e%2 ^ (64*2)))))∨(i=.int .i64 3∧Blk wr w.heap.size 46 (fcs (sqI x (64*3)))∧Blk wr w5.heap.size 46 (fcs (pwI x (e%2 ^ (64*3)))))∨(i=.int .i64 4∧Blk wr w.heap.size 46 (fcs (sqI x (64*3+64)))∧Blk wr w5.heap.size 46 (fcs (pwI x (e%2 ^ (64*3+64))))))) (λi _=>4 - (intOf i).toNat)
 case atStart=>exact ⟨hB6,BR6,Lib.hid (.inl ⟨rfl,BXa,BPa⟩)⟩
 case round =>
  obtain ⟨hb,BR,HI⟩:=hrel
  rcases HI.out with ⟨rfl,BX,BP⟩ | ⟨rfl,BX,BP⟩ | ⟨rfl,BX,BP⟩ | ⟨rfl,BX,BP⟩ | ⟨rfl,BX,BP⟩
  ·clear HI
   go_wp2_with fail
   go_loopw [20] (λjv wr=>∃ t av pv:Nat,t≤64∧jv=.int .i64 (t:Int)∧Hid (av=sqI x (64*0+t)∧pv=pwI x (e%2 ^ (64*0+t)))∧Below w.heap.size w wr∧Blk wr (w.heap.size+1) 46 #[.int .u64 0,.int .u64 0,.int .u64 0,.int .u64 0]∧Blk wr w.heap.size 46 (fcs av)∧Blk wr w5.heap.size 46 (fcs pv)) (λjv _=>64 - (intOf jv).toNat)
   case atStart=>exact ⟨0,_,_,by omega,rfl,Lib.hid ⟨rfl,rfl⟩,hb,BR,BX,BP⟩
   case round =>
    clear hb BR BX BP
    obtain ⟨t,av,pv,ht,rfl,HV,hb,BR,BX,BP⟩:=hrel
    by_cases hlt:t<64
    ·have p1:(t:Int)<64:=by omega
     have lav:av<(2^256):=by rw [HV.out.1]; exact EQ x _ HX.out
     have lpv:pv<(2^256):=by rw [HV.out.2]; exact Ie _ _
     obtain ⟨m,hm⟩:∃ m,m=e0 / 2 ^ t%2:=⟨_,rfl⟩
     have ha:bits .and .u64 ((e0:Int) / 2 ^ t) 1=(m:Int):=by rw [hm]; exact F5 e0 t HB.out.1
     have hml:m<2:=by omega
     obtain ⟨sv,hsv⟩:∃ s,s=mulP av av:=⟨_,rfl⟩
     obtain ⟨qv',hqv⟩:∃ s,s=mulP pv av:=⟨_,rfl⟩
     have cS:∀ w,Calls Tryz.prog 110 #[fv av,fv av] w λr w'=>r=.returned (fv sv)∧Below w.heap.size w w':=by
      intro w; rw [hsv]; exact mulF_any w av av lav lav
     have cP:∀ w,Calls Tryz.prog 110 #[fv pv,fv av] w λr w'=>r=.returned (fv qv')∧Below w.heap.size w w':=by
      intro w; rw [hqv]; exact mulF_any w pv av lpv lav
     have hd:=HN.out.1 t (by omega)
     have hs1:sv=sqI x (64*0+(t+1)):=by rw [hsv,HV.out.1]; rfl
     have hp0:m=0→pv=pwI x (e%2 ^ (64*0+(t+1))):=λh=>by rw [hd, ← hm,h,EF]; exact HV.out.2
     have hp1:m=1→qv'=pwI x (e%2 ^ (64*0+(t+1))):=λh=>by rw [hd, ← hm,h,EG, ← El,hqv,HV.out.1,HV.out.2]
     have HP:=Lib.hid (And.intro hs1 (And.intro hp0 (And.intro hp1 hlt)))
     have lX:=BX.lt
     have lP:=BP.lt
     have szp:w3.heap.size<w5.heap.size:=sz5
     clear hm hsv hqv lav lpv hd hs1 hp0 hp1 hlt ht
     rcases (show m=0∨m=1 by omega) with rfl | rfl
     ·clear cP hml
      go_wp2_with (first | ((with_reducible refine AD (d:=some 31) ?_); refine AA rfl _ _ rfl (w.heap.size) rfl (av) _ _ _ (BX) (AL _) Tryz.underlying46 rfl (by kernel_rfl) ?_) | ((with_reducible refine AD (d:=some 32) ?_); refine AA rfl _ _ rfl (w.heap.size) rfl (av) _ _ _ (BX) (AL _) Tryz.underlying46 rfl (by kernel_rfl) ?_))
      refine (cS _).mono ?_
      rintro r u ⟨rfl,gu⟩
      have CX:=Gr.blk gu BX
      have CP:=Gr.blk gu BP
      have CR:=Gr.blk gu BR
      have hbu:=Below.gr hb gu
      clear gu cS BX BP BR hb ha
      go_wp2_with (first | ((with_reducible refine AF ?_); refine AB rfl _ _ _ rfl (w.heap.size) (fcs (sv)) rfl rfl _ _ (CX) (by kernel_rfl) (by rfl) (AG _) ?_; intro u9 hL9 hq9 hK9))
      go_roundw
      case rel=>exact ⟨t+1,sv,pv,by have:=HP.out.2.2.2; omega,by simp,Lib.hid ⟨HP.out.1,HP.out.2.1 (by simp)⟩,hbu.trans (hq9 _ (by omega)),hK9 _ (by omega) _ _ CR,hL9,hK9 _ (by omega) _ _ CP⟩
      case measure=>have:=HP.out.2.2.2; simp [intOf]; omega
     ·clear hml
      go_wp2_with (first | ((with_reducible refine AD (d:=some 28) ?_); refine AA rfl _ _ rfl (w5.heap.size) rfl (pv) _ _ _ (BP) (AL _) Tryz.underlying46 rfl (by kernel_rfl) ?_) | ((with_reducible refine AD (d:=some 29) ?_); refine AA rfl _ _ rfl (w.heap.size) rfl (av) _ _ _ (BX) (AL _) Tryz.underlying46 rfl (by kernel_rfl) ?_))
      refine (cP _).mono ?_
      rintro r u ⟨rfl,gu⟩
      have CX:=Gr.blk gu BX
      have CP:=Gr.blk gu BP
      have CR:=Gr.blk gu BR
      have hbu:=Below.gr hb gu
      clear gu cP BX BP BR hb ha
      go_wp2_with (first | ((with_reducible refine AF ?_); refine AB rfl _ _ _ rfl (w5.heap.size) (fcs (qv')) rfl rfl _ _ (CP) (by kernel_rfl) (by rfl) (AG _) ?_; intro u8 hL8 hq8 hK8; have DX:=hK8 _ (by omega) _ _ CX; have DR:=hK8 _ (by omega) _ _ CR; have hb8:=hbu.trans (hq8 _ (by omega))) | ((with_reducible refine AD (d:=some 31) ?_); refine AA rfl _ _ rfl (w.heap.size) rfl (av) _ _ _ (DX) (AL _) Tryz.underlying46 rfl (by kernel_rfl) ?_) | ((with_reducible refine AD (d:=some 32) ?_); refine AA rfl _ _ rfl (w.heap.size) rfl (av) _ _ _ (DX) (AL _) Tryz.underlying46 rfl (by kernel_rfl) ?_))
      refine (cS _).mono ?_
      rintro r u2 ⟨rfl,gu⟩
      have EX:=Gr.blk gu DX
      have EP:=Gr.blk gu hL8
      have ER:=Gr.blk gu DR
      have hbe:=Below.gr hb8 gu
      clear gu cS DX hL8 DR hb8
      go_wp2_with (first | ((with_reducible refine AF ?_); refine AB rfl _ _ _ rfl (w.heap.size) (fcs (sv)) rfl rfl _ _ (EX) (by kernel_rfl) (by rfl) (AG _) ?_; intro u9 hL9 hq9 hK9))
      go_roundw
      case rel=>exact ⟨t+1,sv,qv',by have:=HP.out.2.2.2; omega,by simp,Lib.hid ⟨HP.out.1,HP.out.2.2.1 (by simp)⟩,hbe.trans (hq9 _ (by omega)),hK9 _ (by omega) _ _ ER,hL9,hK9 _ (by omega) _ _ EP⟩
      case measure=>have:=HP.out.2.2.2; simp [intOf]; omega
    ·have p1:¬ (t:Int)<64:=by omega
     obtain rfl:t=64:=by omega
     have BXn:Blk wr w.heap.size 46 (fcs (sqI x (64*1))):=BX.eq_ (by rw [HV.out.1])
     have BPn:Blk wr w5.heap.size 46 (fcs (pwI x (e%2 ^ (64*1)))):=BP.eq_ (by rw [HV.out.2])
     clear BX BP HV hlt ht
     go_wp2
     refine ⟨⟨hb,BR,Lib.hid (.inr (.inl (⟨rfl,BXn,BPn⟩)))⟩,by decide⟩
  ·clear HI
   go_wp2_with fail
   go_loopw [20] (λjv wr=>∃ t av pv:Nat,t≤64∧jv=.int .i64 (t:Int)∧Hid (av=sqI x (64*1+t)∧pv=pwI x (e%2 ^ (64*1+t)))∧Below w.heap.size w wr∧Blk wr (w.heap.size+1) 46 #[.int .u64 0,.int .u64 0,.int .u64 0,.int .u64 0]∧Blk wr w.heap.size 46 (fcs av)∧Blk wr w5.heap.size 46 (fcs pv)) (λjv _=>64 - (intOf jv).toNat)
   case atStart=>exact ⟨0,_,_,by omega,rfl,Lib.hid ⟨rfl,rfl⟩,hb,BR,BX,BP⟩
   case round =>
    clear hb BR BX BP
    obtain ⟨t,av,pv,ht,rfl,HV,hb,BR,BX,BP⟩:=hrel
    by_cases hlt:t<64
    ·have p1:(t:Int)<64:=by omega
     have lav:av<(2^256):=by rw [HV.out.1]; exact EQ x _ HX.out
     have lpv:pv<(2^256):=by rw [HV.out.2]; exact Ie _ _
     obtain ⟨m,hm⟩:∃ m,m=e1 / 2 ^ t%2:=⟨_,rfl⟩
     have ha:bits .and .u64 ((e1:Int) / 2 ^ t) 1=(m:Int):=by rw [hm]; exact F5 e1 t HB.out.2.1
     have hml:m<2:=by omega
     obtain ⟨sv,hsv⟩:∃ s,s=mulP av av:=⟨_,rfl⟩
     obtain ⟨qv',hqv⟩:∃ s,s=mulP pv av:=⟨_,rfl⟩
     have cS:∀ w,Calls Tryz.prog 110 #[fv av,fv av] w λr w'=>r=.returned (fv sv)∧Below w.heap.size w w':=by
      intro w; rw [hsv]; exact mulF_any w av av lav lav
     have cP:∀ w,Calls Tryz.prog 110 #[fv pv,fv av] w λr w'=>r=.returned (fv qv')∧Below w.heap.size w w':=by
      intro w; rw [hqv]; exact mulF_any w pv av lpv lav
     have hd:=HN.out.2.1 t (by omega)
     have hs1:sv=sqI x (64*1+(t+1)):=by rw [hsv,HV.out.1]; rfl
     have hp0:m=0→pv=pwI x (e%2 ^ (64*1+(t+1))):=λh=>by rw [hd, ← hm,h,EF]; exact HV.out.2
     have hp1:m=1→qv'=pwI x (e%2 ^ (64*1+(t+1))):=λh=>by rw [hd, ← hm,h,EG, ← El,hqv,HV.out.1,HV.out.2]
     have HP:=Lib.hid (And.intro hs1 (And.intro hp0 (And.intro hp1 hlt)))
     have lX:=BX.lt
     have lP:=BP.lt
     have szp:w3.heap.size<w5.heap.size:=sz5
     clear hm hsv hqv lav lpv hd hs1 hp0 hp1 hlt ht
     rcases (show m=0∨m=1 by omega) with rfl | rfl
     ·clear cP hml
      go_wp2_with (first | ((with_reducible refine AD (d:=some 31) ?_); refine AA rfl _ _ rfl (w.heap.size) rfl (av) _ _ _ (BX) (AL _) Tryz.underlying46 rfl (by kernel_rfl) ?_) | ((with_reducible refine AD (d:=some 32) ?_); refine AA rfl _ _ rfl (w.heap.size) rfl (av) _ _ _ (BX) (AL _) Tryz.underlying46 rfl (by kernel_rfl) ?_))
      refine (cS _).mono ?_
      rintro r u ⟨rfl,gu⟩
      have CX:=Gr.blk gu BX
      have CP:=Gr.blk gu BP
      have CR:=Gr.blk gu BR
      have hbu:=Below.gr hb gu
      clear gu cS BX BP BR hb ha
      go_wp2_with (first | ((with_reducible refine AF ?_); refine AB rfl _ _ _ rfl (w.heap.size) (fcs (sv)) rfl rfl _ _ (CX) (by kernel_rfl) (by rfl) (AG _) ?_; intro u9 hL9 hq9 hK9))
      go_roundw
      case rel=>exact ⟨t+1,sv,pv,by have:=HP.out.2.2.2; omega,by simp,Lib.hid ⟨HP.out.1,HP.out.2.1 (by simp)⟩,hbu.trans (hq9 _ (by omega)),hK9 _ (by omega) _ _ CR,hL9,hK9 _ (by omega) _ _ CP⟩
      case measure=>have:=HP.out.2.2.2; simp [intOf]; omega
     ·clear hml
      go_wp2_with (first | ((with_reducible refine AD (d:=some 28) ?_); refine AA rfl _ _ rfl (w5.heap.size) rfl (pv) _ _ _ (BP) (AL _) Tryz.underlying46 rfl (by kernel_rfl) ?_) | ((with_reducible refine AD (d:=some 29) ?_); refine AA rfl _ _ rfl (w.heap.size) rfl (av) _ _ _ (BX) (AL _) Tryz.underlying46 rfl (by kernel_rfl) ?_))
      refine (cP _).mono ?_
      rintro r u ⟨rfl,gu⟩
      have CX:=Gr.blk gu BX
      have CP:=Gr.blk gu BP
      have CR:=Gr.blk gu BR
      have hbu:=Below.gr hb gu
      clear gu cP BX BP BR hb ha
      go_wp2_with (first | ((with_reducible refine AF ?_); refine AB rfl _ _ _ rfl (w5.heap.size) (fcs (qv')) rfl rfl _ _ (CP) (by kernel_rfl) (by rfl) (AG _) ?_; intro u8 hL8 hq8 hK8; have DX:=hK8 _ (by omega) _ _ CX; have DR:=hK8 _ (by omega) _ _ CR; have hb8:=hbu.trans (hq8 _ (by omega))) | ((with_reducible refine AD (d:=some 31) ?_); refine AA rfl _ _ rfl (w.heap.size) rfl (av) _ _ _ (DX) (AL _) Tryz.underlying46 rfl (by kernel_rfl) ?_) | ((with_reducible refine AD (d:=some 32) ?_); refine AA rfl _ _ rfl (w.heap.size) rfl (av) _ _ _ (DX) (AL _) Tryz.underlying46 rfl (by kernel_rfl) ?_))
      refine (cS _).mono ?_
      rintro r u2 ⟨rfl,gu⟩
      have EX:=Gr.blk gu DX
      have EP:=Gr.blk gu hL8
      have ER:=Gr.blk gu DR
      have hbe:=Below.gr hb8 gu
      clear gu cS DX hL8 DR hb8
      go_wp2_with (first | ((with_reducible refine AF ?_); refine AB rfl _ _ _ rfl (w.heap.size) (fcs (sv)) rfl rfl _ _ (EX) (by kernel_rfl) (by rfl) (AG _) ?_; intro u9 hL9 hq9 hK9))
      go_roundw
      case rel=>exact ⟨t+1,sv,qv',by have:=HP.out.2.2.2; omega,by simp,Lib.hid ⟨HP.out.1,HP.out.2.2.1 (by simp)⟩,hbe.trans (hq9 _ (by omega)),hK9 _ (by omega) _ _ ER,hL9,hK9 _ (by omega) _ _ EP⟩
      case measure=>have:=HP.out.2.2.2; simp [intOf]; omega
    ·have p1:¬ (t:Int)<64:=by omega
     obtain rfl:t=64:=by omega
     have BXn:Blk wr w.heap.size 46 (fcs (sqI x (64*2))):=BX.eq_ (by rw [HV.out.1])
     have BPn:Blk wr w5.heap.size 46 (fcs (pwI x (e%2 ^ (64*2)))):=BP.eq_ (by rw [HV.out.2])
     clear BX BP HV hlt ht
     go_wp2
     refine ⟨⟨hb,BR,Lib.hid (.inr (.inr (.inl (⟨rfl,BXn,BPn⟩))))⟩,by decide⟩
  ·clear HI
   go_wp2_with fail
   go_loopw [20] (λjv wr=>∃ t av pv:Nat,t≤64∧jv=.int .i64 (t:Int)∧Hid (av=sqI x (64*2+t)∧pv=pwI x (e%2 ^ (64*2+t)))∧Below w.heap.size w wr∧Blk wr (w.heap.size+1) 46 #[.int .u64 0,.int .u64 0,.int .u64 0,.int .u64 0]∧Blk wr w.heap.size 46 (fcs av)∧Blk wr w5.heap.size 46 (fcs pv)) (λjv _=>64 - (intOf jv).toNat)
   case atStart=>exact ⟨0,_,_,by omega,rfl,Lib.hid ⟨rfl,rfl⟩,hb,BR,BX,BP⟩
   case round =>
    clear hb BR BX BP
    obtain ⟨t,av,pv,ht,rfl,HV,hb,BR,BX,BP⟩:=hrel
    by_cases hlt:t<64
    ·have p1:(t:Int)<64:=by omega
     have lav:av<(2^256):=by rw [HV.out.1]; exact EQ x _ HX.out
     have lpv:pv<(2^256):=by rw [HV.out.2]; exact Ie _ _
     obtain ⟨m,hm⟩:∃ m,m=e2 / 2 ^ t%2:=⟨_,rfl⟩
     have ha:bits .and .u64 ((e2:Int) / 2 ^ t) 1=(m:Int):=by rw [hm]; exact F5 e2 t HB.out.2.2.1
     have hml:m<2:=by omega
     obtain ⟨sv,hsv⟩:∃ s,s=mulP av av:=⟨_,rfl⟩
     obtain ⟨qv',hqv⟩:∃ s,s=mulP pv av:=⟨_,rfl⟩
     have cS:∀ w,Calls Tryz.prog 110 #[fv av,fv av] w λr w'=>r=.returned (fv sv)∧Below w.heap.size w w':=by
      intro w; rw [hsv]; exact mulF_any w av av lav lav
     have cP:∀ w,Calls Tryz.prog 110 #[fv pv,fv av] w λr w'=>r=.returned (fv qv')∧Below w.heap.size w w':=by
      intro w; rw [hqv]; exact mulF_any w pv av lpv lav
     have hd:=HN.out.2.2.1 t (by omega)
     have hs1:sv=sqI x (64*2+(t+1)):=by rw [hsv,HV.out.1]; rfl
     have hp0:m=0→pv=pwI x (e%2 ^ (64*2+(t+1))):=λh=>by rw [hd, ← hm,h,EF]; exact HV.out.2
     have hp1:m=1→qv'=pwI x (e%2 ^ (64*2+(t+1))):=λh=>by rw [hd, ← hm,h,EG, ← El,hqv,HV.out.1,HV.out.2]
     have HP:=Lib.hid (And.intro hs1 (And.intro hp0 (And.intro hp1 hlt)))
     have lX:=BX.lt
     have lP:=BP.lt
     have szp:w3.heap.size<w5.heap.size:=sz5
     clear hm hsv hqv lav lpv hd hs1 hp0 hp1 hlt ht
     rcases (show m=0∨m=1 by omega) with rfl | rfl
     ·clear cP hml
      go_wp2_with (first | ((with_reducible refine AD (d:=some 31) ?_); refine AA rfl _ _ rfl (w.heap.size) rfl (av) _ _ _ (BX) (AL _) Tryz.underlying46 rfl (by kernel_rfl) ?_) | ((with_reducible refine AD (d:=some 32) ?_); refine AA rfl _ _ rfl (w.heap.size) rfl (av) _ _ _ (BX) (AL _) Tryz.underlying46 rfl (by kernel_rfl) ?_))
      refine (cS _).mono ?_
      rintro r u ⟨rfl,gu⟩
      have CX:=Gr.blk gu BX
      have CP:=Gr.blk gu BP
      have CR:=Gr.blk gu BR
      have hbu:=Below.gr hb gu
      clear gu cS BX BP BR hb ha
      go_wp2_with (first | ((with_reducible refine AF ?_); refine AB rfl _ _ _ rfl (w.heap.size) (fcs (sv)) rfl rfl _ _ (CX) (by kernel_rfl) (by rfl) (AG _) ?_; intro u9 hL9 hq9 hK9))
      go_roundw
      case rel=>exact ⟨t+1,sv,pv,by have:=HP.out.2.2.2; omega,by simp,Lib.hid ⟨HP.out.1,HP.out.2.1 (by simp)⟩,hbu.trans (hq9 _ (by omega)),hK9 _ (by omega) _ _ CR,hL9,hK9 _ (by omega) _ _ CP⟩
      case measure=>have:=HP.out.2.2.2; simp [intOf]; omega
     ·clear hml
      go_wp2_with (first | ((with_reducible refine AD (d:=some 28) ?_); refine AA rfl _ _ rfl (w5.heap.size) rfl (pv) _ _ _ (BP) (AL _) Tryz.underlying46 rfl (by kernel_rfl) ?_) | ((with_reducible refine AD (d:=some 29) ?_); refine AA rfl _ _ rfl (w.heap.size) rfl (av) _ _ _ (BX) (AL _) Tryz.underlying46 rfl (by kernel_rfl) ?_))
      refine (cP _).mono ?_
      rintro r u ⟨rfl,gu⟩
      have CX:=Gr.blk gu BX
      have CP:=Gr.blk gu BP
      have CR:=Gr.blk gu BR
      have hbu:=Below.gr hb gu
      clear gu cP BX BP BR hb ha
      go_wp2_with (first | ((with_reducible refine AF ?_); refine AB rfl _ _ _ rfl (w5.heap.size) (fcs (qv')) rfl rfl _ _ (CP) (by kernel_rfl) (by rfl) (AG _) ?_; intro u8 hL8 hq8 hK8; have DX:=hK8 _ (by omega) _ _ CX; have DR:=hK8 _ (by omega) _ _ CR; have hb8:=hbu.trans (hq8 _ (by omega))) | ((with_reducible refine AD (d:=some 31) ?_); refine AA rfl _ _ rfl (w.heap.size) rfl (av) _ _ _ (DX) (AL _) Tryz.underlying46 rfl (by kernel_rfl) ?_) | ((with_reducible refine AD (d:=some 32) ?_); refine AA rfl _ _ rfl (w.heap.size) rfl (av) _ _ _ (DX) (AL _) Tryz.underlying46 rfl (by kernel_rfl) ?_))
      refine (cS _).mono ?_
      rintro r u2 ⟨rfl,gu⟩
      have EX:=Gr.blk gu DX
      have EP:=Gr.blk gu hL8
      have ER:=Gr.blk gu DR
      have hbe:=Below.gr hb8 gu
      clear gu cS DX hL8 DR hb8
      go_wp2_with (first | ((with_reducible refine AF ?_); refine AB rfl _ _ _ rfl (w.heap.size) (fcs (sv)) rfl rfl _ _ (EX) (by kernel_rfl) (by rfl) (AG _) ?_; intro u9 hL9 hq9 hK9))
      go_roundw
      case rel=>exact ⟨t+1,sv,qv',by have:=HP.out.2.2.2; omega,by simp,Lib.hid ⟨HP.out.1,HP.out.2.2.1 (by simp)⟩,hbe.trans (hq9 _ (by omega)),hK9 _ (by omega) _ _ ER,hL9,hK9 _ (by omega) _ _ EP⟩
      case measure=>have:=HP.out.2.2.2; simp [intOf]; omega
    ·have p1:¬ (t:Int)<64:=by omega
     obtain rfl:t=64:=by omega
     have BXn:Blk wr w.heap.size 46 (fcs (sqI x (64*3))):=BX.eq_ (by rw [HV.out.1])
     have BPn:Blk wr w5.heap.size 46 (fcs (pwI x (e%2 ^ (64*3)))):=BP.eq_ (by rw [HV.out.2])
     clear BX BP HV hlt ht
     go_wp2
     refine ⟨⟨hb,BR,Lib.hid (.inr (.inr (.inr (.inl (⟨rfl,BXn,BPn⟩)))))⟩,by decide⟩
  ·clear HI
   go_wp2_with fail
   go_loopw [20] (λjv wr=>∃ t av pv:Nat,t≤64∧jv=.int .i64 (t:Int)∧Hid (av=sqI x (64*3+t)∧pv=pwI x (e%2 ^ (64*3+t)))∧Below w.heap.size w wr∧Blk wr (w.heap.size+1) 46 #[.int .u64 0,.int .u64 0,.int .u64 0,.int .u64 0]∧Blk wr w.heap.size 46 (fcs av)∧Blk wr w5.heap.size 46 (fcs pv)) (λjv _=>64 - (intOf jv).toNat)
   case atStart=>exact ⟨0,_,_,by omega,rfl,Lib.hid ⟨rfl,rfl⟩,hb,BR,BX,BP⟩
   case round =>
    clear hb BR BX BP
    obtain ⟨t,av,pv,ht,rfl,HV,hb,BR,BX,BP⟩:=hrel
    by_cases hlt:t<64
    ·have p1:(t:Int)<64:=by omega
     have lav:av<(2^256):=by rw [HV.out.1]; exact EQ x _ HX.out
     have lpv:pv<(2^256):=by rw [HV.out.2]; exact Ie _ _
     obtain ⟨m,hm⟩:∃ m,m=e3 / 2 ^ t%2:=⟨_,rfl⟩
     have ha:bits .and .u64 ((e3:Int) / 2 ^ t) 1=(m:Int):=by rw [hm]; exact F5 e3 t HB.out.2.2.2
     have hml:m<2:=by omega
     obtain ⟨sv,hsv⟩:∃ s,s=mulP av av:=⟨_,rfl⟩
     obtain ⟨qv',hqv⟩:∃ s,s=mulP pv av:=⟨_,rfl⟩
     have cS:∀ w,Calls Tryz.prog 110 #[fv av,fv av] w λr w'=>r=.returned (fv sv)∧Below w.heap.size w w':=by
      intro w; rw [hsv]; exact mulF_any w av av lav lav
     have cP:∀ w,Calls Tryz.prog 110 #[fv pv,fv av] w λr w'=>r=.returned (fv qv')∧Below w.heap.size w w':=by
      intro w; rw [hqv]; exact mulF_any w pv av lpv lav
     have hd:=HN.out.2.2.2 t (by omega)
     have hs1:sv=sqI x (64*3+(t+1)):=by rw [hsv,HV.out.1]; rfl
     have hp0:m=0→pv=pwI x (e%2 ^ (64*3+(t+1))):=λh=>by rw [hd, ← hm,h,EF]; exact HV.out.2
     have hp1:m=1→qv'=pwI x (e%2 ^ (64*3+(t+1))):=λh=>by rw [hd, ← hm,h,EG, ← El,hqv,HV.out.1,HV.out.2]
     have HP:=Lib.hid (And.intro hs1 (And.intro hp0 (And.intro hp1 hlt)))
     have lX:=BX.lt
     have lP:=BP.lt
     have szp:w3.heap.size<w5.heap.size:=sz5
     clear hm hsv hqv lav lpv hd hs1 hp0 hp1 hlt ht
     rcases (show m=0∨m=1 by omega) with rfl | rfl
     ·clear cP hml
      go_wp2_with (first | ((with_reducible refine AD (d:=some 31) ?_); refine AA rfl _ _ rfl (w.heap.size) rfl (av) _ _ _ (BX) (AL _) Tryz.underlying46 rfl (by kernel_rfl) ?_) | ((with_reducible refine AD (d:=some 32) ?_); refine AA rfl _ _ rfl (w.heap.size) rfl (av) _ _ _ (BX) (AL _) Tryz.underlying46 rfl (by kernel_rfl) ?_))
      refine (cS _).mono ?_
      rintro r u ⟨rfl,gu⟩
      have CX:=Gr.blk gu BX
      have CP:=Gr.blk gu BP
      have CR:=Gr.blk gu BR
      have hbu:=Below.gr hb gu
      clear gu cS BX BP BR hb ha
      go_wp2_with (first | ((with_reducible refine AF ?_); refine AB rfl _ _ _ rfl (w.heap.size) (fcs (sv)) rfl rfl _ _ (CX) (by kernel_rfl) (by rfl) (AG _) ?_; intro u9 hL9 hq9 hK9))
      go_roundw
      case rel=>exact ⟨t+1,sv,pv,by have:=HP.out.2.2.2; omega,by simp,Lib.hid ⟨HP.out.1,HP.out.2.1 (by simp)⟩,hbu.trans (hq9 _ (by omega)),hK9 _ (by omega) _ _ CR,hL9,hK9 _ (by omega) _ _ CP⟩
      case measure=>have:=HP.out.2.2.2; simp [intOf]; omega
     ·clear hml
      go_wp2_with (first | ((with_reducible refine AD (d:=some 28) ?_); refine AA rfl _ _ rfl (w5.heap.size) rfl (pv) _ _ _ (BP) (AL _) Tryz.underlying46 rfl (by kernel_rfl) ?_) | ((with_reducible refine AD (d:=some 29) ?_); refine AA rfl _ _ rfl (w.heap.size) rfl (av) _ _ _ (BX) (AL _) Tryz.underlying46 rfl (by kernel_rfl) ?_))
      refine (cP _).mono ?_
      rintro r u ⟨rfl,gu⟩
      have CX:=Gr.blk gu BX
      have CP:=Gr.blk gu BP
      have CR:=Gr.blk gu BR
      have hbu:=Below.gr hb gu
      clear gu cP BX BP BR hb ha
      go_wp2_with (first | ((with_reducible refine AF ?_); refine AB rfl _ _ _ rfl (w5.heap.size) (fcs (qv')) rfl rfl _ _ (CP) (by kernel_rfl) (by rfl) (AG _) ?_; intro u8 hL8 hq8 hK8; have DX:=hK8 _ (by omega) _ _ CX; have DR:=hK8 _ (by omega) _ _ CR; have hb8:=hbu.trans (hq8 _ (by omega))) | ((with_reducible refine AD (d:=some 31) ?_); refine AA rfl _ _ rfl (w.heap.size) rfl (av) _ _ _ (DX) (AL _) Tryz.underlying46 rfl (by kernel_rfl) ?_) | ((with_reducible refine AD (d:=some 32) ?_); refine AA rfl _ _ rfl (w.heap.size) rfl (av) _ _ _ (DX) (AL _) Tryz.underlying46 rfl (by kernel_rfl) ?_))
      refine (cS _).mono ?_
      rintro r u2 ⟨rfl,gu⟩
      have EX:=Gr.blk gu DX
      have EP:=Gr.blk gu hL8
      have ER:=Gr.blk gu DR
      have hbe:=Below.gr hb8 gu
      clear gu cS DX hL8 DR hb8
      go_wp2_with (first | ((with_reducible refine AF ?_); refine AB rfl _ _ _ rfl (w.heap.size) (fcs (sv)) rfl rfl _ _ (EX) (by kernel_rfl) (by rfl) (AG _) ?_; intro u9 hL9 hq9 hK9))
      go_roundw
      case rel=>exact ⟨t+1,sv,qv',by have:=HP.out.2.2.2; omega,by simp,Lib.hid ⟨HP.out.1,HP.out.2.2.1 (by simp)⟩,hbe.trans (hq9 _ (by omega)),hK9 _ (by omega) _ _ ER,hL9,hK9 _ (by omega) _ _ EP⟩
      case measure=>have:=HP.out.2.2.2; simp [intOf]; omega
    ·have p1:¬ (t:Int)<64:=by omega
     obtain rfl:t=64:=by omega
     have BXn:Blk wr w.heap.size 46 (fcs (sqI x (64*3+64))):=BX.eq_ (by rw [HV.out.1])
     have BPn:Blk wr w5.heap.size 46 (fcs (pwI x (e%2 ^ (64*3+64)))):=BP.eq_ (by rw [HV.out.2])
     clear BX BP HV hlt ht
     go_wp2
     refine ⟨⟨hb,BR,Lib.hid (.inr (.inr (.inr (.inr (⟨rfl,BXn,BPn⟩)))))⟩,by decide⟩
  ·clear HI
   obtain ⟨z,hz⟩:∃ z,z=pwI x e:=⟨_,rfl⟩
   have BZ:Blk wr w5.heap.size 46 (fcs z):=BP.eq_ (by rw [HE.out.2,hz])
   have HZ:=Lib.hid hz
   clear hz BP
   go_wp2_with (first | ((with_reducible refine AD (d:=some 36) ?_); refine AA rfl _ _ rfl (w5.heap.size) rfl (z) _ _ _ (BZ) (AL _) Tryz.underlying46 rfl (by kernel_rfl) ?_) | ((with_reducible refine AF ?_); refine AB rfl _ _ _ rfl (w.heap.size+1) (fcs (z)) rfl rfl _ _ (BR) (by kernel_rfl) (by rfl) (AG _) ?_; intro u9 hL9 hq9 hK9))
   exact bodyPost_ret (results_cell_row rfl _ _ (w.heap.size+1) _ _ (0,0) _ rfl hL9 Tryz.underlying46 rfl (by kernel_rfl)) rfl ⟨by rw [← HZ.out]; rfl,hb.trans (hq9 _ (by omega))⟩
end Sc
end
section
namespace Sc
open Go.RowKit Go.Lib
def pw (x e:Nat):Nat:=x ^ e%pM
theorem pw_lt (x e:Nat):pw x e<(2^256):=mod_lt _
theorem Dn (w:World) (n:Nat) (di:Int) (hdi:di=(n:Int)) (hn:n<18446744073709551616):Calls Tryz.prog 123 #[.int .u64 di] w λe w'=>e=.returned (fv n)∧Below w.heap.size w w':=by
 subst hdi
 rw [Dw n hn]
 go_enter Tryz.func123,Tryz.ntmps123
 go_wp2
 exact bodyPost_ret (results_cell_row rfl _ _ w.heap.size _ _ (0,0) _ rfl (heap_alloc_new w _) Tryz.underlying98 rfl (by kernel_rfl)) rfl ⟨rfl,(Below.refl _ _).alloc (Nat.le_refl _) _⟩
theorem E8 (w:World) (x e:Nat) (hx:x<(2^256)) (he:e<(2^256)):Calls Tryz.prog 124 #[.agg #[.int .u64 13822214165235122497,.int .u64 13451932020343611451,.int .u64 18446744073709551614,.int .u64 18446744073709551615,.int .u64 4624529908474429119,.int .u64 4994812053365940164,.int .u64 1],fv x,fv e] w λee w'=>ee=.returned (fv (pw x e))∧Below w.heap.size w w':=by
 have h:=Fz.powZ w pM DF Cv DZ (by decide +kernel) Ct (by decide +kernel) (λw x hx=>by rw [Bw]; exact normR_any w x hx) (λw=>Dn w 1 1 rfl (by decide)) x e hx he
 rw [Bw] at h
 exact h
set_option maxHeartbeats 2000000 in
set_option maxRecDepth 100000 in
theorem invRef_any (w:World) (x:Nat) (hx:x<(2^256)):Calls Tryz.prog 66 #[.agg #[.int .u64 13822214165235122497,.int .u64 13451932020343611451,.int .u64 18446744073709551614,.int .u64 18446744073709551615,.int .u64 4624529908474429119,.int .u64 4994812053365940164,.int .u64 1],fv x] w λe w'=>e=.returned (fv (pw x (115792089237316195423570985008687907852837564279074904382605163141518161494337 - 2)))∧Below w.heap.size w w':=by
 obtain ⟨p,hp⟩:∃ p,p=115792089237316195423570985008687907852837564279074904382605163141518161494337:=⟨_,rfl⟩
 obtain ⟨n2,h2⟩:∃ n,n=2:=⟨_,rfl⟩
 obtain ⟨q,hq⟩:∃ q,q=115792089237316195423570985008687907852837564279074904382605163141518161494337 - 2:=⟨_,rfl⟩
 obtain ⟨z,hz⟩:∃ z,z=pw x q:=⟨_,rfl⟩
 rw [← hq, ← hz]
 have cS:∀ w,Calls Tryz.prog 123 #[.int .u64 2] w λe w'=>e=.returned (fv n2)∧Below w.heap.size w w':=λw=>Dn w n2 2 (by rw [h2]; rfl) (by omega)
 have cM:∀ w,Calls Tryz.prog 120 #[fv p,fv n2] w λe w'=>e=.returned (fv q)∧Below w.heap.size w w':=λw=>Cj w p n2 q 0 rfl rfl (by omega) (by omega) (by omega) (by omega)
 have cP:∀ w,Calls Tryz.prog 124 #[.agg #[.int .u64 13822214165235122497,.int .u64 13451932020343611451,.int .u64 18446744073709551614,.int .u64 18446744073709551615,.int .u64 4624529908474429119,.int .u64 4994812053365940164,.int .u64 1],fv x,fv q] w λe w'=>e=.returned (fv z)∧Below w.heap.size w w':=by
  intro w; rw [hz]; exact E8 w x q hx (by omega)
 have FP:Hid (fv p=.agg #[.int .u64 13822214165235122497,.int .u64 13451932020343611451,.int .u64 18446744073709551614,.int .u64 18446744073709551615]):=Lib.hid (by rw [hp]; exact Jq)
 obtain ⟨x0,x1,x2,x3,fx⟩:=AZ x hx
 have FX:=Lib.hid fx
 rw [fx]
 clear fx hx hp h2 hq hz
 go_enter Tryz.func66,Tryz.ntmps66
 go_wp2
 refine wp_region_G (λj=>j == 7) (by kernel_rfl) ?_
 try simp only [Act.put]
 refine tkw 0 rfl (YieldsG.load (by rfl) _ _ rfl w.heap.size 0 rfl ([.int .u64 13822214165235122497,.int .u64 13451932020343611451,.int .u64 18446744073709551614,.int .u64 18446744073709551615,.int .u64 4624529908474429119,.int .u64 4994812053365940164,.int .u64 1]) _ (Blk.lt (((Blk.new w _ _).alloc _).alloc _)) (Blk.range (((Blk.new w _ _).alloc _).alloc _)) Tryz.underlying102 rfl (by kernel_rfl)) ?_
 try simp only [Act.put,aA,aZ,aS]
 refine tkw 1 rfl (YieldsG.loadF (by rfl) _ _ rfl (w.heap.size+1) rfl (x) _ _ ((Aa w _ _ _).alloc _) (FX.out) Tryz.underlying98 rfl (by kernel_rfl)) ?_
 try simp only [Act.put,aA,aZ,aS]
 refine tk 2 rfl ?_
 try simp only [Act.put,aA,aZ,aS]
 refine tkw 3 rfl (YieldsG.loadP (by rfl) _ _ rfl w.heap.size rfl p _ (Blk.lt (((Blk.new w _ _).alloc _).alloc _)) (Bx (((Blk.new w _ _).alloc _).alloc _)) FP.out Tryz.underlying98 rfl (by kernel_rfl)) ?_
 try simp only [Act.put,aA,aZ,aS]
 refine tkw 4 rfl (YieldsG.call (v:=fv n2) (by rfl) 123 _ (λw9=>by go_simp; try (first | with_reducible rfl | rfl)) (λw9 h9=>cS w9)) ?_
 try simp only [Act.put,aA,aZ,aS]
 refine tkw 5 rfl (YieldsG.call (v:=fv q) (by rfl) 120 _ (λw9=>by go_simp; try (first | with_reducible rfl | rfl)) (λw9 h9=>cM w9)) ?_
 try simp only [Act.put,aA,aZ,aS]
 refine tkw 6 rfl (YieldsG.call (v:=fv z) (by rfl) 124 _ (λw9=>by go_simp; try (first | with_reducible rfl | rfl)) (λw9 h9=>cP w9)) ?_
 try simp only [Act.put,aA,aZ,aS]
 refine An 7 rfl (by kernel_rfl) (by rfl) _ _ _ rfl (w.heap.size+2) (fcs (z)) rfl rfl _ _ (Ah w _ _ _ _) (by kernel_rfl) (by rfl) (AG _) rfl (λw6 h6 w7 hB7 hL7=>?_)
 try simp only [Act.put]
 refine wpAnyG_done (by kernel_rfl) (λw8 h8=>?_)
 have hfin:=Gr.blk h8 hL7
 have hb9:=(Below.gr (AW w _ _ _) h6).trans ((hB7 _ (by omega)).trans (Below.mono h8 (by have:=hL7.lt; omega)))
 go_wp2
 exact bodyPost_ret (results_cell_row rfl _ _ (w.heap.size+2) _ _ (0,0) _ rfl hfin Tryz.underlying98 rfl (by kernel_rfl)) rfl ⟨rfl,hb9⟩
end Sc
end
section
namespace Cu
open Go.RowKit Sy
noncomputable def ivS (a:Nat):Nat:=Sc.pw a (115792089237316195423570985008687907852837564279074904382605163141518161494337 - 2)
theorem Iv (a:Nat):ivS a<K4:=Sc.pw_lt _ _
theorem Pk (w:World) (a:Nat) (ha:a<K4):Calls Tryz.prog 175 #[fv a] w (Gets w (fv (ivS a))):=Sc.inv_any w a ha
set_option maxHeartbeats 4000000 in
set_option maxRecDepth 100000 in
theorem Pj (w:World) (a:Nat) (ha:a<K4):Calls Tryz.prog 56 #[fv a] w (Gets w (fv (ivS a))):=by
 refine Sy.enter (args:=[fv a]) Tryz.func56 rfl kL ?_
 refine sC ?_
 refine sM 46 (fcs a) (λg0=>?_)
 refine sM 46 (fcs 0) (λg1=>?_)
 refine sH (λj=>j == 5) ?_
 refine sD 0 rfl (.agg G_) (qF 60 #[] (Sc.refN_any))<|sD 1 rfl (fv a) (qL 0 g0 0 4 46 46 (fcs a) rfl Tryz.underlying46)<|sD 2 rfl (fv a) (qF 61 #[fv a] (λw=>Sc.refOf_any w a ha))<|sD 3 rfl (fv (ivS a)) (qF 66 #[.agg G_,fv a] (λw=>Sc.invRef_any w a ha))<|sD 4 rfl (fv (ivS a)) (qF 71 #[fv (ivS a)] (λw=>Sc.refSc_any w (ivS a) (Iv _)))<|sX 5 rfl 1 g1 46 (fcs 0) (fcs (ivS a)) (wS 0 46 (fcs (ivS a)) rfl) ?_
 refine sI ?_
 refine Sy.ret ?_
 exact rC (v:=fv (ivS a)) 46 g1 1 (fcs (ivS a)) rfl Tryz.underlying46
end Cu
end
section
namespace Cu
open Go.RowKit Sy
theorem DT (z:Int) (x:Nat):∀ u∈Ai z x,u.oneCell'=true:=λu hu=>by
 rcases List.mem_cons.1 hu with rfl | h
 ·rfl
 ·exact Dc _ u h
def Ce (f:Nat→Bool):Nat→Nat
 | 0=>0
 | n+1=>if Ce f n<n then Ce f n else if f n then n+1 else n
theorem Fc (f:Nat→Bool):∀ n,Ce f n≤n∧(∀ j,j<Ce f n→f j=true)∧(Ce f n<n→f (Ce f n)=false)
 | 0=>⟨Nat.le_refl _,λ_ h=>absurd h (Nat.not_lt_zero _),λh=>absurd h (Nat.lt_irrefl _)⟩
 | n+1=>by
  obtain ⟨h1,h2,h3⟩:=Fc f n
  unfold Ce
  by_cases h:Ce f n<n
  ·rw [if_pos h]
   exact ⟨by omega,h2,λ_=>h3 h⟩
  ·rw [if_neg h]
   have e:Ce f n=n:=by omega
   rw [e] at h2
   cases hf:f n with
   | true=>exact ⟨Nat.le_refl _,λj hj=>(Nat.lt_succ_iff_lt_or_eq.1 hj).elim (h2 j) (λh=>by rw [h]; exact hf),λh=>absurd h (Nat.lt_irrefl _)⟩
   | false=>exact ⟨Nat.le_succ _,h2,λ_=>hf⟩
theorem Mt {f:Nat→Bool} {n a:Nat} (h1:a≤n) (h2:∀ j,j<a→f j=true) (h3:a<n→f a=false):Ce f n=a:=by
 obtain ⟨q1,q2,q3⟩:=Fc f n
 rcases Nat.lt_trichotomy (Ce f n) a with h | h | h
 ·have e1:=q3 (by omega)
  rw [h2 _ h] at e1
  cases e1
 ·exact h
 ·have e1:=h3 (by omega)
  rw [q2 _ h] at e1
  cases e1
section
variable (bm sd:List UInt8) (i:Nat) (s:Nat→Nat)
def atI (n:Nat):Nat:=Ce (λj=>decide (s j=rgF bm sd i j)) n
theorem I6 {n a:Nat} (h1:a≤n) (h2:∀ j,j<a→s j=rgF bm sd i j) (h3:a<n→s a≠rgF bm sd i a):atI bm sd i s n=a :=
 Mt h1 (λj hj=>decide_eq_true (h2 j hj)) (λh=>decide_eq_false (h3 h))
noncomputable def opX (e:Nat→Nat) (a:Nat):Nat:=Sc.mulP (Sc.subP (rgN bm sd i) (s a)) (ivS (e a))
theorem Km (e:Nat→Nat) (a:Nat):opX bm sd i s e a<K4:=Sc.mod_lt _
noncomputable def Cm (n:Nat) (e:Nat→Nat) (X Y:Nat→Nat) (I:Nat→Bool):Bool:=decide (atI bm sd i s n<n) && (!decide (e (atI bm sd i s n)=0) && Bq (opX bm sd i s e (atI bm sd i s n)) (X (atI bm sd i s n)) (Y (atI bm sd i s n)) (I (atI bm sd i s n)))
noncomputable def G6 (n:Nat) (e:Nat→Nat) (X Y:Nat→Nat) (I:Nat→Bool):Value:=if Cm bm sd i s n e X Y I then .tuple #[Bo ((atI bm sd i s n:Nat):Int) (opX bm sd i s e (atI bm sd i s n)),.bool true] else .tuple #[Bo 0 0,.bool false]
end
section
variable {bm sd:List UInt8} {i n a:Nat} {s e:Nat→Nat} {X Y:Nat→Nat} {I:Nat→Bool}
theorem Hk (h:atI bm sd i s n=a) (ha:¬ a<n):Cm bm sd i s n e X Y I=false:=by unfold Cm; rw [h,decide_eq_false ha]; rfl
theorem Hj (h:atI bm sd i s n=a) (ha:e a=0):Cm bm sd i s n e X Y I=false:=by unfold Cm; rw [h,decide_eq_true ha,Bool.not_true,Bool.false_and,Bool.and_false]
theorem Hi (h:atI bm sd i s n=a) (ha:Bq (opX bm sd i s e a) (X a) (Y a) (I a)=false):Cm bm sd i s n e X Y I=false:=by unfold Cm; rw [h,ha,Bool.and_false,Bool.and_false]
theorem Hh (h:atI bm sd i s n=a) (h1:a<n) (h2:¬ e a=0) (h3:Bq (opX bm sd i s e a) (X a) (Y a) (I a)=true):Cm bm sd i s n e X Y I=true:=by unfold Cm; rw [h,h3,decide_eq_true h1,decide_eq_false h2]; rfl
theorem Fq (h:Cm bm sd i s n e X Y I=false):G6 bm sd i s n e X Y I=.tuple #[Bo 0 0,.bool false]:=by unfold G6; rw [h]; rfl
theorem JO (h:Cm bm sd i s n e X Y I=true) (ha:atI bm sd i s n=a):G6 bm sd i s n e X Y I=.tuple #[Bo ((a:Nat):Int) (opX bm sd i s e a),.bool true]:=by unfold G6; rw [h,ha]; rfl
end
set_option maxHeartbeats 4000000 in
set_option maxRecDepth 100000 in
theorem JN (w:World) (R:Option Addr) (NR cR:Nat) (a:Nat→Option Addr) (nk ck:Nat→Nat) (X Y:Nat→Nat→Nat) (I:Nat→Nat→Bool) (hX:∀ i k,X i k<K4) (hY:∀ i k,Y i k<K4) (hNR:NR≤4611686018427387904) (hnk:∀ i,nk i≤4611686018427387904) (hlr:Lst w 1 R NR (λi=>[.slice (a i) (nk i) (ck i)])) (hlk:∀ i,i<NR→Lst w 9 (a i) (nk i) (λk=>pml (X i k) (Y i k) (I i k))) (bm:List UInt8) (hbm:bm.length=32) (sd:List UInt8) (hsd:sd.length=32) (i:Nat) (hi:i<NR) (hi2:i<256) (WA:Option Addr) (WN wc:Nat) (s:Nat→Nat) (hs4:∀ k,s k<K4) (hlw:Lst w 4 WA WN (λk=>fws (s k))) (EA:Option Addr) (EN ec:Nat) (e:Nat→Nat) (he4:∀ k,e k<K4) (hle:Lst w 4 EA EN (λk=>fws (e k))) (hWN:WN≤256) (hWE:WN≤EN) (hWK:WN≤nk i) (ht:Sh.TabAt w 1):Calls Tryz.prog 118 #[Ax R NR cR bm,.agg (sd.map bv).toArray,.int .i64 ((i:Nat):Int),.slice WA WN wc,.slice EA EN ec] w (Gets w (G6 bm sd i s WN e (X i) (Y i) (I i))):=by
 have hlr0:=hlr
 obtain ⟨gR,oR,hR⟩:=hlr
 obtain ⟨gW,oW,hW⟩:=hlw
 obtain ⟨gE,oE,hE⟩:=hle
 obtain ⟨gK,oK,hT⟩:=hlk i hi
 refine Sy.enter (args:=[Ax R NR cR bm,.agg (sd.map bv).toArray,.int .i64 ((i:Nat):Int),.slice WA WN wc,.slice EA EN ec]) Tryz.func118 rfl kL ?_
 refine sC ?_
 refine sM 83 (Af R NR cR bm).toArray (λg0=>?_)
 refine sM 23 (sd.map bv).toArray (λg1=>?_)
 refine sM 48 (Ai 0 0).toArray (λg2=>?_)
 refine sP (.bool false) ?_
 refine sA ?_
 refine sP (.int .i64 0) ?_
 refine sG<|Sy.seq<|Sy.block ?_
 refine Sy.loopH WN (λk1=>∀ j,j<k1→s j=rgF bm sd i j) (λk1=>[(2,.int .i64 ((i:Nat):Int)),(3,.slice WA WN wc),(4,.slice EA EN ec),(5,.pointer (some ⟨g0,0,none⟩)),(6,.pointer (some ⟨g1,0,none⟩)),(10,.pointer (some ⟨g2,0,none⟩)),(12,.int .i64 ((k1:Nat):Int))]) (λk1=>[(g0,83,(Af R NR cR bm).toArray),(g1,23,(sd.map bv).toArray),(g2,48,(Ai 0 0).toArray)]) [true,true,true] (M:=[(g0,83,(Af R NR cR bm).toArray),(g1,23,(sd.map bv).toArray),(g2,48,(Ai 0 0).toArray)]) (λj hj=>absurd hj (Nat.not_lt_zero _)) ac7 kR (AM rfl (AM rfl (AM rfl rfl))) (λk1 hk1 hh=>?_)
 have hh1:=hh
 refine Sy.seq<|Sy.seq ?_
 refine Sy.regionD (λj=>false) kR ?_
 refine sZ 0 rfl (.int .i64 ((k1:Nat):Int))<|sZ 1 rfl (.slice WA WN wc)<|sZ 2 rfl (.int .i64 ((WN:Nat):Int)) ?_
 obtain ⟨b1,hb1⟩:∃ z:Bool,z=decide (k1<WN):=⟨_,rfl⟩
 refine sD 3 rfl (.bool b1) (Quiet.pure (AC .lss _ _ _ .i64 _ _ _ rfl rfl rfl (AY _ _ _ _ _ (by rw [hb1]; exact decide_eq_decide.2 (by omega)))))<|sZ 4 rfl (.bool b1) ?_
 cases b1
 ·have lb1:¬ (k1<WN):=of_decide_eq_false hb1.symm
  have hat:atI bm sd i s WN=k1:=I6 _ _ _ _ (by omega) hh1 (λh=>absurd h lb1)
  refine sQ 5 rfl<|sQ 6 rfl<|sQ 7 rfl<|sQ 8 rfl<|sQ 9 rfl<|sQ 10 rfl<|sQ 11 rfl<|sQ 12 rfl ?_
  refine sQ 13 rfl<|sQ 14 rfl<|sZ 15 rfl (.bool false) ?_
  refine sI ?_
  refine sU<|Sy.exit<|Sy.then_exit<|Sy.then_exit<|Sy.in_exit<|Sy.then_<|Sy.seq<|Sy.seq ?_
  refine Sy.regionD (λj=>false) kR ?_
  refine sZ 0 rfl (.int .i64 ((k1:Nat):Int))<|sZ 1 rfl (.slice WA WN wc)<|sZ 2 rfl (.int .i64 ((WN:Nat):Int)) ?_
  obtain ⟨b2,hb2⟩:∃ z:Bool,z=decide (k1=WN):=⟨_,rfl⟩
  refine sD 3 rfl (.bool b2) (Quiet.pure (AC .eql _ _ _ .i64 _ _ _ rfl rfl rfl (Lw _ _ _ _ _ (by rw [hb2]; exact decide_eq_decide.2 (by omega)))))<|sZ 4 rfl (.bool b2) ?_
  cases b2
  ·have lb2:¬ (k1=WN):=of_decide_eq_false hb2.symm
   exact absurd (show k1=WN by omega) lb2
  ·have lb2:k1=WN:=of_decide_eq_true hb2.symm
   refine sQ 5 rfl<|sQ 6 rfl<|sQ 7 rfl<|sQ 8 rfl<|sQ 9 rfl<|sQ 10 rfl<|sZ 11 rfl (.bool true) ?_
   refine sI ?_
   refine sT<|sC ?_
   refine sP (Bo 0 0)<|sW 2 g2 48 (Ai 0 0).toArray (Ai 0 0).toArray (Writes.row 48 (Ai 0 0) 5 _ _ rfl kR kR kR rfl rfl (DT _ _))<|sP (.bool false) ?_
   refine sG<|Sy.ret<|Sy.then_ret ?_
   rw [show (G6 bm sd i s WN e (X i) (Y i) (I i):Value)=.tuple #[Bo 0 0,.bool false] from by rw [Fq (Hk hat (by omega))]]
   exact Sy.ret2 rfl (v:=Bo 0 0) (u:=.bool false) (.inl (Res.cell (ty':=48) g2 2 (Ai 0 0).toArray _ kR kR Tryz.underlying48 rfl kR kR)) (.inl (show _=_ by kernel_rfl))
 ·have lb1:k1<WN:=of_decide_eq_true hb1.symm
  refine sZ 5 rfl (.slice WA WN wc)<|sZ 6 rfl (.int .i64 ((k1:Nat):Int))<|sD 7 rfl (.pointer (some ⟨gW,oW+k1*4,none⟩)) (Quiet.pure (AJ 55 _ _ _ WA gW oW WN wc k1 4 .i64 (hW (by omega)).1 rfl rfl rfl Tryz.underlying55 kF (by omega)))<|sD 8 rfl (fv (s k1)) (Quiet.there gW (oW+k1*4) 4 46 (fws (s k1)) _ _ rfl kR (hW (by omega)).2.1 ((hW (by omega)).2.2 k1 (by omega)) Tryz.underlying46 rfl kR rfl _ rfl)<|sD 9 rfl (Ax R NR cR bm) (Quiet.load 0 g0 0 33 83 83 (Af R NR cR bm).toArray _ _ rfl kR kR Tryz.underlying83 rfl kR _ (Az hbm) (A6 hbm))<|sD 10 rfl (.agg (sd.map bv).toArray) (Quiet.load 1 g1 0 32 23 23 (sd.map bv).toArray _ _ rfl kR kR Tryz.underlying23 rfl kR _ (A2 sd hsd) (BF sd hsd))<|sZ 11 rfl (.int .i64 ((i:Nat):Int))<|sZ 12 rfl (.int .i64 ((k1:Nat):Int)) ?_
  refine sD 13 rfl (fv (rgF bm sd i k1)) (Quiet.callS 162 #[Ax R NR cR bm,.agg (sd.map bv).toArray,.int .i64 ((i:Nat):Int),.int .i64 ((k1:Nat):Int)] kF (λw hw=>H8 w R NR cR bm hbm sd hsd i k1 hi2 (by omega) (ht.below hw.below ht.lt))) ?_
  obtain ⟨b3,hb3⟩:∃ z:Bool,z=decide ((s k1)=(rgF bm sd i k1)):=⟨_,rfl⟩
  refine sD 14 rfl (.bool b3) (Quiet.pure (λw=>by rw [hb3]; exact LB w _ _ _ _ _ _ rfl rfl rfl (by first | exact hs4 _ | exact he4 _ | exact CT _ _ _ _ | exact CC) (by first | exact hs4 _ | exact he4 _ | exact CT _ _ _ _ | exact CC)))<|sZ 15 rfl (.bool b3) ?_
  refine sI ?_
  cases b3
  ·have lb3:¬ ((s k1)=(rgF bm sd i k1)):=of_decide_eq_false hb3.symm
   have hat:atI bm sd i s WN=k1:=I6 _ _ _ _ (by omega) hh1 (λ_=>lb3)
   refine sU<|Sy.exit<|Sy.then_exit<|Sy.then_exit<|Sy.in_exit<|Sy.then_<|Sy.seq<|Sy.seq ?_
   refine Sy.regionD (λj=>false) kR ?_
   refine sZ 0 rfl (.int .i64 ((k1:Nat):Int))<|sZ 1 rfl (.slice WA WN wc)<|sZ 2 rfl (.int .i64 ((WN:Nat):Int)) ?_
   obtain ⟨b4,hb4⟩:∃ z:Bool,z=decide (k1=WN):=⟨_,rfl⟩
   refine sD 3 rfl (.bool b4) (Quiet.pure (AC .eql _ _ _ .i64 _ _ _ rfl rfl rfl (Lw _ _ _ _ _ (by rw [hb4]; exact decide_eq_decide.2 (by omega)))))<|sZ 4 rfl (.bool b4) ?_
   cases b4
   ·have lb4:¬ (k1=WN):=of_decide_eq_false hb4.symm
    refine sZ 5 rfl (.slice EA EN ec)<|sZ 6 rfl (.int .i64 ((k1:Nat):Int))<|sD 7 rfl (.pointer (some ⟨gE,oE+k1*4,none⟩)) (Quiet.pure (AJ 55 _ _ _ EA gE oE EN ec k1 4 .i64 (hE (by omega)).1 rfl rfl rfl Tryz.underlying55 kF (by omega)))<|sD 8 rfl (fv (e k1)) (Quiet.there gE (oE+k1*4) 4 46 (fws (e k1)) _ _ rfl kR (hE (by omega)).2.1 ((hE (by omega)).2.2 k1 (by omega)) Tryz.underlying46 rfl kR rfl _ rfl)<|sD 9 rfl (fv 0) (qF 135 #[.int .u64 0] (λw=>Sc.of_at w 0 0 rfl (by decide))) ?_
    obtain ⟨b5,hb5⟩:∃ z:Bool,z=decide ((e k1)=0):=⟨_,rfl⟩
    refine sD 10 rfl (.bool b5) (Quiet.pure (λw=>by rw [hb5]; exact LB w _ _ _ _ _ _ rfl rfl rfl (by first | exact hs4 _ | exact he4 _ | exact CT _ _ _ _ | exact CC) (by first | exact hs4 _ | exact he4 _ | exact CT _ _ _ _ | exact CC)))<|sZ 11 rfl (.bool b5) ?_
    refine sI ?_
    cases b5
    ·have lb5:¬ ((e k1)=0):=of_decide_eq_false hb5.symm
     have hez:¬ e k1=0:=lb5
     refine sU<|Sy.skip ?_
     refine sR (λj=>j == 16) ?_
     refine sD 0 rfl (Ax R NR cR bm) (Quiet.load 0 g0 0 33 83 83 (Af R NR cR bm).toArray _ _ rfl kR kR Tryz.underlying83 rfl kR _ (Az hbm) (A6 hbm))<|sD 1 rfl (.agg (sd.map bv).toArray) (Quiet.load 1 g1 0 32 23 23 (sd.map bv).toArray _ _ rfl kR kR Tryz.underlying23 rfl kR _ (A2 sd hsd) (BF sd hsd))<|sZ 2 rfl (.int .i64 ((i:Nat):Int)) ?_
     obtain ⟨kn,hkn⟩:∃ k,k=rgN bm sd i:=⟨_,rfl⟩
     refine sD 3 rfl (fv kn) (Quiet.callS 104 #[Ax R NR cR bm,.agg (sd.map bv).toArray,.int .i64 ((i:Nat):Int)] kF (λw hw=>by rw [hkn]; exact EW w R NR cR bm hbm sd hsd i hi2 (ht.below hw.below ht.lt)))<|sZ 4 rfl (.slice WA WN wc)<|sZ 5 rfl (.int .i64 ((k1:Nat):Int))<|sD 6 rfl (.pointer (some ⟨gW,oW+k1*4,none⟩)) (Quiet.pure (AJ 55 _ _ _ WA gW oW WN wc k1 4 .i64 (hW (by omega)).1 rfl rfl rfl Tryz.underlying55 kF (by omega)))<|sD 7 rfl (fv (s k1)) (Quiet.there gW (oW+k1*4) 4 46 (fws (s k1)) _ _ rfl kR (hW (by omega)).2.1 ((hW (by omega)).2.2 k1 (by omega)) Tryz.underlying46 rfl kR rfl _ rfl) ?_
     obtain ⟨ks,hks⟩:∃ k,k=Sc.subP kn (s k1):=⟨_,rfl⟩
     refine sD 8 rfl (fv ks) (qF 109 #[fv kn,fv (s k1)] (λw=>by rw [hks]; exact Sc.subF_any w _ _ (by rw [hkn]; exact Ib _ _ _) (hs4 _)))<|sZ 9 rfl (.slice EA EN ec)<|sZ 10 rfl (.int .i64 ((k1:Nat):Int))<|sD 11 rfl (.pointer (some ⟨gE,oE+k1*4,none⟩)) (Quiet.pure (AJ 55 _ _ _ EA gE oE EN ec k1 4 .i64 (hE (by omega)).1 rfl rfl rfl Tryz.underlying55 kF (by omega)))<|sD 12 rfl (fv (e k1)) (Quiet.there gE (oE+k1*4) 4 46 (fws (e k1)) _ _ rfl kR (hE (by omega)).2.1 ((hE (by omega)).2.2 k1 (by omega)) Tryz.underlying46 rfl kR rfl _ rfl) ?_
     obtain ⟨kv,hkv⟩:∃ k,k=ivS (e k1):=⟨_,rfl⟩
     refine sD 13 rfl (fv kv) (qF 175 #[fv (e k1)] (λw=>by rw [hkv]; exact Pk w _ (he4 _))) ?_
     obtain ⟨kx,hkx⟩:∃ k,k=opX bm sd i s e k1:=⟨_,rfl⟩
     refine sD 14 rfl (fv kx) (qF 110 #[fv ks,fv kv] (λw=>by rw [hkx]; unfold opX; rw [← hkn, ← hks, ← hkv]; exact Sc.mulF_any w _ _ (by rw [hks]; exact Sc.subP_lt _ _) (by rw [hkv]; exact Iv _))) ?_
     refine sO 15 rfl 46 (fcs 0) (λg3=>?_)
     refine sX 16 rfl 3 g3 46 (fcs 0) (fcs kx) (wS 0 46 (fcs kx) rfl) ?_
     refine sI ?_
     refine Sy.seq<|Sy.seq ?_
     refine Sy.regionD (λj=>false) kR ?_
     refine sD 0 rfl (fv kx) (qL 3 g3 0 4 46 46 (fcs kx) rfl Tryz.underlying46)<|sZ 1 rfl (.pointer (some ⟨g0,0,none⟩))<|sD 2 rfl (.slice R NR cR) (Quiet.cell 0 g0 0 83 25 (Af R NR cR bm).toArray _ _ rfl kR kR Tryz.underlying25 rfl _ kR)<|sZ 3 rfl (.int .i64 ((i:Nat):Int))<|sD 4 rfl (.pointer (some ⟨gR,oR+i*1,none⟩)) (Quiet.pure (AJ 25 _ _ _ R gR oR NR cR i 1 .i64 (hR (by omega)).1 rfl rfl rfl Tryz.underlying25 kF (by omega)))<|sD 5 rfl (.slice (a i) (nk i) (ck i)) (Quiet.thereOne gR (oR+i*1) 49 _ _ rfl kR (hR (by omega)).2.1 _ (AR ((hR (by omega)).2.2 i (by omega)) 0 rfl) Tryz.underlying49 rfl)<|sZ 6 rfl (.int .i64 ((k1:Nat):Int))<|sD 7 rfl (.pointer (some ⟨gK,oK+k1*9,none⟩)) (Quiet.pure (AJ 49 _ _ _ (a i) gK oK (nk i) (ck i) k1 9 .i64 (hT (by omega)).1 rfl rfl rfl Tryz.underlying49 kF (by omega))) ?_
     refine sD 8 rfl (pv (X i k1) (Y i k1) (I i k1)) (Quiet.there gK (oK+k1*9) 9 52 (pml (X i k1) (Y i k1) (I i k1)) _ _ rfl kR (hT (by omega)).2.1 ((hT (by omega)).2.2 k1 (by omega)) Tryz.underlying52 rfl kR rfl _ rfl) ?_
     obtain ⟨b6,hb6⟩:∃ z:Bool,z=Bq kx (X i k1) (Y i k1) (I i k1):=⟨_,rfl⟩
     refine sD 9 rfl (.bool b6) (qF 99 #[fv kx,pv (X i k1) (Y i k1) (I i k1)] (λw=>by rw [hb6]; exact H3 w _ _ _ _ (by rw [hkx]; exact Km _ _ _ _ _ _) (hX _ _) (hY _ _))) ?_
     cases b6
     ·refine sZ 10 rfl (.bool true) ?_
      refine sI ?_
      refine sT<|sC ?_
      refine sP (Bo 0 0)<|sW 2 g2 48 (Ai 0 0).toArray (Ai 0 0).toArray (Writes.row 48 (Ai 0 0) 5 _ _ rfl kR kR kR rfl rfl (DT _ _))<|sP (.bool false) ?_
      refine sG<|Sy.ret<|Sy.then_ret ?_
      rw [show (G6 bm sd i s WN e (X i) (Y i) (I i):Value)=.tuple #[Bo 0 0,.bool false] from by rw [Fq (Hi hat (by rw [← hkx, ← hb6]))]]
      exact Sy.ret2 rfl (v:=Bo 0 0) (u:=.bool false) (.inl (Res.cell (ty':=48) g2 2 (Ai 0 0).toArray _ kR kR Tryz.underlying48 rfl kR kR)) (.inl (show _=_ by kernel_rfl))
     ·refine sZ 10 rfl (.bool false) ?_
      refine sI ?_
      refine sU<|Sy.skip<|sB ?_
      refine sP (.int .i64 ((k1:Nat):Int))<|sS (fv kx) (qL 3 g3 0 4 46 46 (fcs kx) rfl Tryz.underlying46)<|sP (Bo ((k1:Nat):Int) kx)<|sW 2 g2 48 (Ai 0 0).toArray (Ai ((k1:Nat):Int) kx).toArray (Writes.row 48 (Ai ((k1:Nat):Int) kx) 5 _ _ rfl kR kR kR rfl rfl (DT _ _))<|sP (.bool true) ?_
      refine sG<|Sy.ret ?_
      rw [show (G6 bm sd i s WN e (X i) (Y i) (I i):Value)=.tuple #[Bo ((k1:Nat):Int) kx,.bool true] from by rw [JO (Hh hat (by omega) hez (by rw [← hkx, ← hb6])) hat,hkx]]
      exact Sy.ret2 rfl (v:=Bo ((k1:Nat):Int) kx) (u:=.bool true) (.inl (Res.cell (ty':=48) g2 2 (Ai ((k1:Nat):Int) kx).toArray _ kR kR Tryz.underlying48 rfl kR kR)) (.inl (show _=_ by kernel_rfl))
    ·have lb5:(e k1)=0:=of_decide_eq_true hb5.symm
     refine sT<|sC ?_
     refine sP (Bo 0 0)<|sW 2 g2 48 (Ai 0 0).toArray (Ai 0 0).toArray (Writes.row 48 (Ai 0 0) 5 _ _ rfl kR kR kR rfl rfl (DT _ _))<|sP (.bool false) ?_
     refine sG<|Sy.ret<|Sy.then_ret ?_
     rw [show (G6 bm sd i s WN e (X i) (Y i) (I i):Value)=.tuple #[Bo 0 0,.bool false] from by rw [Fq (Hj hat lb5)]]
     exact Sy.ret2 rfl (v:=Bo 0 0) (u:=.bool false) (.inl (Res.cell (ty':=48) g2 2 (Ai 0 0).toArray _ kR kR Tryz.underlying48 rfl kR kR)) (.inl (show _=_ by kernel_rfl))
   ·have lb4:k1=WN:=of_decide_eq_true hb4.symm
    exact absurd lb4 (by omega)
  ·have lb3:(s k1)=(rgF bm sd i k1):=of_decide_eq_true hb3.symm
   have hse:s k1=rgF bm sd i k1:=lb3
   refine sT<|Sy.skip<|Sy.then_<|Sy.block<|Sy.region ?_
   refine sP (.int .i64 ((k1:Nat):Int))<|sS (.int .i64 ((k1+1:Nat):Int)) (Quiet.pure (AC .add _ _ _ .i64 _ _ _ rfl rfl rfl (AO _ _ _ _ _ ((AH (by omega) (by omega)).trans (by omega)))))<|sP (.int .i64 ((k1+1:Nat):Int)) ?_
   refine Sy.nil<|Sy.in_ ?_
   exact Sy.againH [true,true,true] (M:=[(g0,83,(Af R NR cR bm).toArray),(g1,23,(sd.map bv).toArray),(g2,48,(Ai 0 0).toArray)]) (by omega) (λj hj=>(Nat.lt_succ_iff_lt_or_eq.1 hj).elim (hh1 j) (λh=>by subst h; exact hse)) ac7 kR (AM rfl (AM rfl (AM rfl rfl)))
end Cu
end
section
namespace Cu
open Go.RowKit Sy
noncomputable def Q_:TypeInfo:=(Tryz.prog.info? 48).getD default
theorem Jn:Tryz.prog.info? 48=some Q_:=by kernel_rfl
theorem MR (bm sd:List UInt8) (i:Nat) (s:Nat→Nat) (n:Nat) (e:Nat→Nat) (X Y:Nat→Nat) (I:Nat→Bool):∃ z x,G6 bm sd i s n e X Y I=.tuple #[Bo z x,.bool (Cm bm sd i s n e X Y I)]∧(true=Cm bm sd i s n e X Y I→z=((atI bm sd i s n:Nat):Int)∧x=opX bm sd i s e (atI bm sd i s n)):=by
 cases h:Cm bm sd i s n e X Y I with
 | true=>exact ⟨_,_,JO h rfl,λ_=>⟨rfl,rfl⟩⟩
 | false=>exact ⟨_,_,Fq h,λh=>by cases h⟩
section
variable (bm sd:List UInt8) (nk:Nat→Nat) (s e:Nat→Nat→Nat) (X Y:Nat→Nat→Nat) (I:Nat→Nat→Bool)
noncomputable def Il (i:Nat):Bool:=Cm bm sd i (s i) (nk i) (e i) (X i) (Y i) (I i)
noncomputable def Im (NR:Nat):Bool:=(List.range NR).all (Il bm sd nk s e X Y I)
noncomputable def GZ (i:Nat):Int:=((atI bm sd i (s i) (nk i):Nat):Int)
noncomputable def Kj (i:Nat):Nat:=opX bm sd i (s i) (e i) (atI bm sd i (s i) (nk i))
end
section
variable {bm sd:List UInt8} {nk:Nat→Nat} {s e:Nat→Nat→Nat} {X Y:Nat→Nat→Nat} {I:Nat→Nat→Bool} {NR:Nat}
theorem Fw {k:Nat} (hk:k<NR) (h:Il bm sd nk s e X Y I k=false):Im bm sd nk s e X Y I NR=false:=List.all_eq_false.2 ⟨k,List.mem_range.2 hk,by rw [h]; decide⟩
theorem Jd (h:∀ k,k<NR→Il bm sd nk s e X Y I k=true):Im bm sd nk s e X Y I NR=true:=List.all_eq_true.2 λi hi=>h i (List.mem_range.1 hi)
end
def SecsR (b:Bool) (f:Nat→List Value) (N:Nat) (v:Value) (M:AE):Prop:=(b=false∧v=.tuple #[.slice none 0 0,.bool false]∧M=[])∨(b=true∧∃ y:Slc,v=.tuple #[y.v,.bool true]∧M=y.bl∧y.Is 48 5 ((List.range N).map f))
set_option maxHeartbeats 4000000 in
set_option maxRecDepth 100000 in
theorem IV (w:World) (R:Option Addr) (NR cR:Nat) (a:Nat→Option Addr) (nk ck:Nat→Nat) (X Y:Nat→Nat→Nat) (I:Nat→Nat→Bool) (hX:∀ i k,X i k<K4) (hY:∀ i k,Y i k<K4) (hNR:NR≤4611686018427387904) (hnk:∀ i,nk i≤4611686018427387904) (hlr:Lst w 1 R NR (λi=>[.slice (a i) (nk i) (ck i)])) (hlk:∀ i,i<NR→Lst w 9 (a i) (nk i) (λk=>pml (X i k) (Y i k) (I i k))) (hN32:NR≤32) (hn64:∀ i,i<NR→nk i≤64) (bm:List UInt8) (hbm:bm.length=32) (sd:List UInt8) (hsd:sd.length=32) (W:Option Addr) (cW:Nat) (sa:Nat→Option Addr) (sc:Nat→Nat) (s:Nat→Nat→Nat) (hsc:∀ i k,s i k<K4) (hlw:Lst w 1 W NR (λi=>[.slice (sa i) (nk i) (sc i)])) (hls:∀ i,i<NR→Lst w 4 (sa i) (nk i) (λk=>fws (s i k))) (V:Option Addr) (cV:Nat) (va:Nat→Option Addr) (vc:Nat→Nat) (e:Nat→Nat→Nat) (he4:∀ i k,e i k<K4) (hlv:Lst w 1 V NR (λi=>[.slice (va i) (nk i) (vc i)])) (hlv4:∀ i,i<NR→Lst w 4 (va i) (nk i) (λk=>fws (e i k))) (ht:Sh.TabAt w 1):Calls Tryz.prog 55 #[Ax R NR cR bm,.agg (sd.map bv).toArray,.slice W NR cW,.slice V NR cV] w (GetsN w (SecsR (Im bm sd nk s e X Y I NR) (λi=>Ai (GZ bm sd nk s i) (Kj bm sd nk s e i)) NR)):=by
 have hlr0:=hlr
 obtain ⟨gR,oR,hR⟩:=hlr
 obtain ⟨gW,oW,hW⟩:=hlw
 obtain ⟨gV,oV,hV⟩:=hlv
 refine Sy.enter (args:=[Ax R NR cR bm,.agg (sd.map bv).toArray,.slice W NR cW,.slice V NR cV]) Tryz.func55 rfl kL ?_
 refine sC ?_
 refine sM 83 (Af R NR cR bm).toArray (λg0=>?_)
 refine sM 23 (sd.map bv).toArray (λg1=>?_)
 refine sP (.slice none 0 0)<|sP (.bool false) ?_
 refine sA ?_
 refine sP (.slice none 0 0) ?_
 refine sG<|Sy.seq<|sC ?_
 refine sP (.slice W NR cW)<|sP (.int .i64 ((NR:Nat):Int))<|sP (.int .i64 0) ?_
 refine sG<|Sy.block ?_
 refine Sy.loopT (Y:=Slc) NR (λk1 y1=>[(2,.slice W NR cW),(3,.slice V NR cV),(4,.pointer (some ⟨g0,0,none⟩)),(5,.pointer (some ⟨g1,0,none⟩)),(10,y1.v),(15,.slice W NR cW),(16,.int .i64 ((NR:Nat):Int)),(17,.int .i64 ((k1:Nat):Int))]) (λk1 y1=>[(g0,83,(Af R NR cR bm).toArray),(g1,23,(sd.map bv).toArray)]++(y1.bl++([]))) (λk1 y1=>y1.Is 48 5 ((List.range k1).map (λi=>Ai (GZ bm sd nk s i) (Kj bm sd nk s e i)))∧∀ i,i<k1→Il bm sd nk s e X Y I i=true) nilS ⟨Slc.Is.nil _ _,λi hi=>absurd hi (Nat.not_lt_zero _)⟩ ac8 (λw hw=>hw) (λk1 y1 hk1 hh1=>?_)
 refine sC ?_
 obtain ⟨b1,hb1⟩:∃ z:Bool,z=decide (k1<NR):=⟨_,rfl⟩
 refine sS (.bool b1) (Quiet.pure (AC .lss _ _ _ .i64 _ _ _ rfl rfl rfl (AY _ _ _ _ _ (by rw [hb1]; exact decide_eq_decide.2 (by omega))))) ?_
 refine sG<|Sy.seq ?_
 cases b1
 ·have lb1:¬ (k1<NR):=of_decide_eq_false hb1.symm
  refine sU<|Sy.exit<|Sy.then_exit<|Sy.then_exit ?_
  obtain rfl:NR=k1:=by omega
  refine Sy.in_exit<|sB ?_
  refine sP (y1.v)<|sP (y1.v)<|sP (.bool true) ?_
  refine sG<|Sy.ret ?_
  exact Bb y1.bl rfl (v:=y1.v) (u:=.bool true) (.inl (show _=_ by kernel_rfl)) (.inl (show _=_ by kernel_rfl)) (λw hw=>St.parts (ls:=[[(g0,83,(Af R NR cR bm).toArray)],[(g1,23,(sd.map bv).toArray)],y1.bl]) (ms:=[y1.bl]) [[(g0,83,(Af R NR cR bm).toArray)],[(g1,23,(sd.map bv).toArray)]] [2,0,1] kR (by rfl) (by rfl) (by simp) hw) (.inr ⟨Jd hh1.2,y1,rfl,rfl,hh1.1⟩)
 ·have lb1:k1<NR:=of_decide_eq_true hb1.symm
  have hnk1:=hn64 k1 lb1
  obtain ⟨gS,oS,hS⟩:=hls k1 lb1
  obtain ⟨gU,oU,hU⟩:=hlv4 k1 lb1
  refine sT<|Sy.skip<|Sy.then_<|Sy.seq<|Sy.block<|sC ?_
  refine sP (.int .i64 ((k1:Nat):Int))<|sS (.pointer (some ⟨gW,oW+k1*1,none⟩)) (Quiet.pure (AJ 29 _ _ _ W gW oW NR cW k1 1 .i64 (hW (by omega)).1 rfl rfl rfl Tryz.underlying29 kF (by omega)))<|sS (.slice (sa k1) (nk k1) (sc k1)) (Quiet.thereOne gW (oW+k1*1) 55 _ _ rfl kR (hW (by omega)).2.1 _ (AR ((hW (by omega)).2.2 k1 (by omega)) 0 rfl) Tryz.underlying55 rfl)<|sP (.int .i64 ((k1:Nat):Int))<|sP (.slice (sa k1) (nk k1) (sc k1)) ?_
  refine sH (λj=>j == 13) ?_
  refine sD 0 rfl (Ax R NR cR bm) (Quiet.load 0 g0 0 33 83 83 (Af R NR cR bm).toArray _ _ rfl kR kR Tryz.underlying83 rfl kR _ (Az hbm) (A6 hbm))<|sD 1 rfl (.agg (sd.map bv).toArray) (Quiet.load 1 g1 0 32 23 23 (sd.map bv).toArray _ _ rfl kR kR Tryz.underlying23 rfl kR _ (A2 sd hsd) (BF sd hsd))<|sZ 2 rfl (.int .i64 ((k1:Nat):Int))<|sZ 3 rfl (.slice (sa k1) (nk k1) (sc k1))<|sZ 4 rfl (.slice V NR cV)<|sZ 5 rfl (.int .i64 ((k1:Nat):Int))<|sD 6 rfl (.pointer (some ⟨gV,oV+k1*1,none⟩)) (Quiet.pure (AJ 29 _ _ _ V gV oV NR cV k1 1 .i64 (hV (by omega)).1 rfl rfl rfl Tryz.underlying29 kF (by omega)))<|sD 7 rfl (.slice (va k1) (nk k1) (vc k1)) (Quiet.thereOne gV (oV+k1*1) 55 _ _ rfl kR (hV (by omega)).2.1 _ (AR ((hV (by omega)).2.2 k1 (by omega)) 0 rfl) Tryz.underlying55 rfl) ?_
  obtain ⟨bz,hbz⟩:∃ b,b=Il bm sd nk s e X Y I k1:=⟨_,rfl⟩
  obtain ⟨zz,xx,hsf,hsv⟩:=MR bm sd k1 (s k1) (nk k1) (e k1) (X k1) (Y k1) (I k1)
  refine sD 8 rfl (.tuple #[Bo zz xx,.bool bz]) (Quiet.callS 118 #[Ax R NR cR bm,.agg (sd.map bv).toArray,.int .i64 ((k1:Nat):Int),.slice (sa k1) (nk k1) (sc k1),.slice (va k1) (nk k1) (vc k1)] kF (λw hw=>by rw [hbz]; unfold Il; rw [← hsf]; exact JN w R NR cR a nk ck X Y I hX hY hNR hnk (hlr0.below hw.below) (λi hi=>(hlk i hi).below hw.below) bm hbm sd hsd k1 (by omega) (by omega) (sa k1) (nk k1) (sc k1) (s k1) (hsc k1) ((hls k1 (by omega)).below hw.below) (va k1) (nk k1) (vc k1) (e k1) (he4 k1) ((hlv4 k1 (by omega)).below hw.below) (by omega) (Nat.le_refl _) (Nat.le_refl _) (ht.below hw.below ht.lt)))<|sZ 9 rfl (.tuple #[Bo zz xx,.bool bz])<|sZ 10 rfl (Bo zz xx) ?_
  refine Sy.stepDA 11 rfl kR (λ_ _ _ _ h=>h) kR (.bool bz) kF ?_
  refine sO 12 rfl 48 (Ai 0 0).toArray (λg2=>?_)
  refine Sy.movTD ?_
  refine sX 13 rfl 2 g2 48 (Ai 0 0).toArray (Ai zz xx).toArray (Writes.row 48 (Ai zz xx) 5 _ _ rfl kR kR kR rfl rfl (DT _ _)) ?_
  refine Sy.setTD ?_
  refine Sy.anyOf [14] kR (by decide) (Sy.each1 ?_)
  refine Sy.oneQuiet rfl kR (.bool bz) qP ?_
  refine sI ?_
  refine Sy.seq<|sC ?_
  refine sP (.bool bz) ?_
  cases bz
  ·refine sP (.bool true) ?_
   refine sG<|sT<|sC ?_
   refine sP (.slice none 0 0)<|sP (.bool false) ?_
   refine sG<|Sy.ret<|Sy.then_ret<|Sy.in_ret<|Sy.then_ret<|Sy.then_ret<|Sy.in_ret<|Sy.then_ret ?_
   exact Bb [] rfl (v:=.slice none 0 0) (u:=.bool false) (.inl (show _=_ by kernel_rfl)) (.inl (show _=_ by kernel_rfl)) (λ_ hw=>hw.none) (.inl ⟨Fw (k:=k1) (by assumption) hbz.symm,rfl,rfl⟩)
  ·have hsy:true=Il bm sd nk s e X Y I k1:=hbz
   refine sP (.bool false) ?_
   refine sG<|sU<|Sy.skip<|Sy.then_<|Sy.region ?_
   refine sP (y1.v)<|sS (Bo zz xx) (Quiet.load 2 g2 0 5 48 48 (Ai zz xx).toArray _ _ rfl kR kR Tryz.underlying48 rfl kR _ rfl (Nat.le_refl _)) ?_
   refine Sy.make kR 48 (Ai zz xx).toArray (λg=>.slice (some ⟨g,0,none⟩) 1 1) kF (λg3=>?_)
   refine Sy.movT ?_
   refine Sy.appendR kR 26 48 _ _ 5 40 Tryz.underlying26 Jn rfl rfl rfl rfl (by decide) _ _ rfl hh1.1 kR (Ai zz xx) rfl (DT _ _) 3 g3 48 kR kR (by rw [List.length_map,List.length_range]; omega) (by rw [List.length_map,List.length_range]; simp only [maxLen]; omega) (λr1 hr1=>?_)
   refine sP (r1.v) ?_
   refine Sy.nil<|Sy.in_<|Sy.then_<|Sy.region ?_
   refine sS (.int .i64 ((k1+1:Nat):Int)) (Quiet.pure (AC .add _ _ _ .i64 _ _ _ rfl rfl rfl (AO _ _ _ _ _ ((AH (by omega) (by omega)).trans (by omega)))))<|sP (.int .i64 ((k1+1:Nat):Int)) ?_
   refine Sy.nil ?_
   exact Sy.againT (r1) (by omega) (⟨by rw [List.range_succ,List.map_append]; obtain ⟨e1,e2⟩:=hsv hsy; rw [e1,e2] at hr1; exact hr1,λi hi=>(Nat.lt_succ_iff_lt_or_eq.1 hi).elim (hh1.2 i) (λh=>by subst h; exact hsy.symm)⟩) ac8 (λw hw=>St.parts (ls:=[[(g0,83,(Af R NR cR bm).toArray)],[(g1,23,(sd.map bv).toArray)],[(g2,48,(Ai zz xx).toArray)],[(g3,48,(Ai zz xx).toArray)],r1.bl]) (ms:=[[(g0,83,(Af R NR cR bm).toArray)],[(g1,23,(sd.map bv).toArray)],r1.bl]) [[(g2,48,(Ai zz xx).toArray)],[(g3,48,(Ai zz xx).toArray)]] [0,1,4,2,3] kR (by rfl) (by rfl) (by rfl) hw)
end Cu
end
section
namespace Cu
open Go.RowKit Sy
theorem ChR.yes {f:Nat→Nat→List Value} {nk:Nat→Nat} {NR:Nat} {u:Value} {M:AE} (h:ChR true f nk NR (.tuple #[u,.bool true]) M):EI 55 46 4 f (B1 nk NR 0) NR u M:=by
 rcases h with ⟨h,_⟩ | ⟨_,u',h,q⟩
 ·cases h
 ·injection h with h
  injection h with h
  injection h with h
  subst h
  exact q
theorem SecsR.tup {b:Bool} {f:Nat→List Value} {N:Nat} {v:Value} {M:AE} (h:SecsR b f N v M):∃ u,v=.tuple #[u,.bool b]:=by
 rcases h with ⟨rfl,rfl,_⟩ | ⟨rfl,y,rfl,_⟩ <;> exact ⟨_,rfl⟩
theorem NZ {w0:Base} {w:World} {L M:AE} {NR g:Nat} {nk:Nat→Nat} {s:Nat→Nat→Nat} {r:Nat→Slc} (hr:RowsAre r 46 4 (λi j=>fws (s i j)) (B1 nk NR 0)) (hM:M=(g,55,Aj r NR)::BK r NR) (hw:St w0 w L) (hb:∀ b∈M,b∈L):Lst w 1 (some ⟨g,0,none⟩) NR (λi=>[.slice (slA (r i).v) (nk i) (slC (r i).v)])∧∀ i,i<NR→Lst w 4 (slA (r i).v) (nk i) (λk=>fws (s i k)):=by
 have hv:∀ i,i<NR→(r i).v=.slice (slA (r i).v) (nk i) (slC (r i).v):=λi hi=>by
  obtain ⟨A,k,h1,_⟩:=hr.lst (DK hi) hi
  rw [h1]
  rfl
 refine ⟨?_,λi hi=>?_⟩
 ·exact Ez (Lf (sp:=[]) (f:=λj=>[(r j).v]) (λ_=>rfl) hw (hb _ (by rw [hM,List.append_nil]; exact List.mem_cons_self ..))) (λi hi=>by rw [← hv i hi])
 ·obtain ⟨A,k,h1,_,_,h2⟩:=hr.lst (DK hi) hi
  have h3:=h2 hw (λb h=>hb b (by rw [hM]; exact List.mem_cons_of_mem _ h))
  show Lst w 4 (slA (r i).v) _ _
  rw [h1]
  exact h3
theorem IC {s:Nat→Nat→Nat} {bm:List UInt8} {X Y:Nat→Nat→Nat} {I:Nat→Nat→Bool} {d:List UInt8} {NW NR:Nat} {sn nk:Nat→Nat} (h:true=chB s bm X Y I d NW NR sn nk):NW=NR∧∀ i,i<NR→sn i=nk i:=by
 unfold chB at h
 obtain ⟨h1,h2⟩:=Bool.and_eq_true_iff.1 h.symm
 exact ⟨of_decide_eq_true h1,λi hi=>(rowOk_iff.1 (List.all_eq_true.1 (Bool.and_eq_true_iff.1 h2).1 i (List.mem_range.2 hi))).1⟩
set_option maxHeartbeats 4000000 in
set_option maxRecDepth 100000 in
theorem NA (w:World) (sd:List UInt8) (hsd:sd.length=32) (A:Option Addr) (m:List UInt8) (n c:Nat) (hm:m.length=n) (hm9:n≤999000000) (hc:n≤c) (hc2:c≤9223372036854775807) (hs0:Sh.Src w A m) (R:Option Addr) (NR cR:Nat) (a:Nat→Option Addr) (nk ck:Nat→Nat) (X Y:Nat→Nat→Nat) (I:Nat→Nat→Bool) (hX:∀ i k,X i k<K4) (hY:∀ i k,Y i k<K4) (hNR:NR≤4611686018427387904) (hnk:∀ i,nk i≤4611686018427387904) (hlr:Lst w 1 R NR (λi=>[.slice (a i) (nk i) (ck i)])) (hlk:∀ i,i<NR→Lst w 9 (a i) (nk i) (λk=>pml (X i k) (Y i k) (I i k))) (hN9:NR≤17592186044416) (d:List UInt8) (hd:d.length=32) (W:Option Addr) (NW cW:Nat) (sa:Nat→Option Addr) (sn sc:Nat→Nat) (s:Nat→Nat→Nat) (hsc:∀ i k,s i k<K4) (hNW:NW≤4611686018427387904) (hsn9:∀ i,i<NW→sn i≤4611686018427387904) (hlw:Lst w 1 W NW (λi=>[.slice (sa i) (sn i) (sc i)])) (hls:∀ i,i<NW→Lst w 4 (sa i) (sn i) (λk=>fws (s i k))) (ht:Sh.TabAt w 1):Calls Tryz.prog 16 #[.agg (sd.map bv).toArray,.slice A n c,.slice R NR cR,Ar d W NW cW] w (GetsN w (SecsR (vfB m NR nk X Y I s d NW sn && Im (rgM m NR nk X Y I) sd nk s (eE s (rgM m NR nk X Y I) X Y I d) X Y I NR) (λi=>Ai (GZ (rgM m NR nk X Y I) sd nk s i) (Kj (rgM m NR nk X Y I) sd nk s (eE s (rgM m NR nk X Y I) X Y I d) i)) NR)):=by
 have hlr0:=hlr
 obtain ⟨gR,oR,hR⟩:=hlr
 have hlw0:=hlw
 refine Sy.enter (args:=[.agg (sd.map bv).toArray,.slice A n c,.slice R NR cR,Ar d W NW cW]) Tryz.func16 rfl kL ?_
 refine sC ?_
 refine sM 23 (sd.map bv).toArray (λg0=>?_)
 refine sM 31 (AK d W NW cW).toArray (λg1=>?_)
 refine sP (.slice none 0 0)<|sP (.bool false) ?_
 refine sG<|Sy.seq<|sC ?_
 refine sP (.slice R NR cR) ?_
 obtain ⟨b1,hb1⟩:∃ z:Bool,z=Bp NR nk X Y I:=⟨_,rfl⟩
 refine sS (.bool b1) (qG 42 #[.slice R NR cR] (λw hw=>by rw [hb1]; exact EU w R NR cR a nk ck X Y I hX hY hNR hnk (hlr0.below hw.below) (λi hi=>(hlk i hi).below hw.below) hN9)) ?_
 cases b1
 ·refine sP (.bool true) ?_
  refine sG<|sT<|sC ?_
  refine sP (.slice none 0 0)<|sP (.bool false) ?_
  refine sG<|Sy.ret<|Sy.then_ret ?_
  exact Bb [] rfl (v:=.slice none 0 0) (u:=.bool false) (.inl (show _=_ by kernel_rfl)) (.inl (show _=_ by kernel_rfl)) (λ_ hw=>hw.none) (.inl ⟨by unfold vfB; rw [← hb1]; rfl,rfl,rfl⟩)
 ·obtain ⟨hN32,hn64,hn1,hN1⟩:=DC hb1
  refine sP (.bool false) ?_
  refine sG<|sU<|Sy.skip<|sB ?_
  refine sP (.slice A n c)<|sP (.slice R NR cR) ?_
  obtain ⟨bM,hbM⟩:∃ l,l=rgM m NR nk X Y I:=⟨_,rfl⟩
  have hbl:bM.length=32:=by rw [hbM]; exact DW _ _ _ _ _ _
  refine sS (Ax R NR cR bM) (qG 44 #[.slice A n c,.slice R NR cR] (λw hw=>by rw [hbM]; exact Gz w R NR cR a nk ck X Y I hX hY hNR hnk (hlr0.below hw.below) (λi hi=>(hlk i hi).below hw.below) hN32 hn64 A m n c hm hm9 hc hc2 (hs0.below hw.below) (ht.below hw.below ht.lt))) ?_
  refine sM 83 (Af none 0 0 (List.replicate 32 (0:UInt8))).toArray (λg2=>?_)
  refine sW 2 g2 83 (Af none 0 0 (List.replicate 32 (0:UInt8))).toArray (Af R NR cR bM).toArray (Writes.row 83 (Af R NR cR bM) 33 _ _ rfl kR kR kR (Gx _ _ _ hbl) kR (KG _ _ _ _)) ?_
  refine sA ?_
  refine sS (Ax R NR cR bM) (Quiet.load 2 g2 0 33 83 83 (Af R NR cR bM).toArray _ _ rfl kR kR Tryz.underlying83 rfl kR _ (Az hbl) (A6 hbl))<|sS (Ar d W NW cW) (Quiet.load 1 g1 0 33 31 31 (AK d W NW cW).toArray _ _ rfl kR kR Tryz.underlying31 rfl kR _ (CG hd) (DQ hd)) ?_
  obtain ⟨b2,hb2⟩:∃ z:Bool,z=chB s bM X Y I d NW NR sn nk:=⟨_,rfl⟩
  refine Sy.callN kR 54 #[Ax R NR cR bM,Ar d W NW cW] kF (ChR b2 (eF s bM X Y I d) nk NR) (λw hw=>by rw [hb2]; exact Dg w R NR cR a nk ck X Y I hX hY hNR hnk (hlr0.below hw.below) (λi hi=>(hlk i hi).below hw.below) hN32 hn64 hn1 bM hbl d hd W NW cW sa sn sc s hsc hNW hsn9 (hlw0.below hw.below) (λi hi=>(hls i hi).below hw.below) (ht.below hw.below ht.lt)) (λvq Mq hR0=>?_)
  obtain ⟨u,rfl⟩:=hR0.tup
  obtain ⟨M1,rfl⟩:∃ M,M=Mq:=⟨_,rfl⟩
  have hR9:=hR0
  refine Sy.permS (M:=[(g0,23,(sd.map bv).toArray),(g1,31,(AK d W NW cW).toArray),(g2,83,(Af R NR cR bM).toArray)]++(M1++([]))) (by rw [List.append_nil]; exact List.Perm.refl _) ?_
  refine sP (.tuple #[u,.bool b2])<|sP (u)<|sP (.bool b2)<|sP (u)<|sP (.bool b2) ?_
  refine sG<|Sy.seq<|sC ?_
  refine sP (.bool b2) ?_
  cases b2
  ·refine sP (.bool true) ?_
   refine sG<|sT<|sC ?_
   refine sP (.slice none 0 0)<|sP (.bool false) ?_
   refine sG<|Sy.ret<|Sy.then_ret ?_
   exact Bb [] rfl (v:=.slice none 0 0) (u:=.bool false) (.inl (show _=_ by kernel_rfl)) (.inl (show _=_ by kernel_rfl)) (λ_ hw=>hw.none) (.inl ⟨by unfold vfB; rw [← hb1, ← hbM, ← hb2]; rfl,rfl,rfl⟩)
  ·obtain ⟨hNN,hsn⟩:=IC hb2
   obtain rfl:NR=NW:=hNN.symm
   obtain ⟨gE,rE,rfl,hMq,hrE⟩:=hR9.yes
   refine sP (.bool false) ?_
   refine sG<|sU<|Sy.skip<|sB ?_
   refine sS (Ax R NR cR bM) (Quiet.load 2 g2 0 33 83 83 (Af R NR cR bM).toArray _ _ rfl kR kR Tryz.underlying83 rfl kR _ (Az hbl) (A6 hbl))<|sS (.agg (sd.map bv).toArray) (Quiet.load 0 g0 0 32 23 23 (sd.map bv).toArray _ _ rfl kR kR Tryz.underlying23 rfl kR _ (A2 sd hsd) (BF sd hsd))<|sP (.pointer (some ⟨g1,32,none⟩))<|sS (.slice W NR cW) (Quiet.cell 1 g1 32 31 29 (AK d W NR cW).toArray _ _ rfl kR kR Tryz.underlying29 rfl _ (Cb hd))<|sP ((.slice (some ⟨gE,0,none⟩) NR NR)) ?_
   obtain ⟨b3,hb3⟩:∃ b,b=Im bM sd nk s (eE s bM X Y I d) X Y I NR:=⟨_,rfl⟩
   refine Sy.callN kR 55 #[Ax R NR cR bM,.agg (sd.map bv).toArray,.slice W NR cW,(.slice (some ⟨gE,0,none⟩) NR NR)] kF (SecsR b3 (λi=>Ai (GZ bM sd nk s i) (Kj bM sd nk s (eE s bM X Y I d) i)) NR) (λw hw=>by have hq:=NZ (s:=eE s bM X Y I d) hrE hMq hw (λb hb=>(List.mem_append.2 (.inr (List.mem_append.2 (.inl hb))))); rw [hb3]; exact IV w R NR cR a nk ck X Y I hX hY hNR hnk (hlr0.below hw.below) (λi hi=>(hlk i hi).below hw.below) hN32 hn64 bM hbl sd hsd W cW sa sc s hsc (Ez (hlw0.below hw.below) (λi hi=>by rw [hsn i hi])) (λi hi=>by rw [← hsn i hi]; exact (hls i hi).below hw.below) (some ⟨gE,0,none⟩) NR _ _ (eE s bM X Y I d) (λi k=>OQ i k) hq.1 hq.2 (ht.below hw.below ht.lt)) (λvq Mq hR0=>?_)
   obtain ⟨u2,rfl⟩:=hR0.tup
   obtain ⟨M2,rfl⟩:∃ M,M=Mq:=⟨_,rfl⟩
   have hR2:=hR0
   refine Sy.permS Sy.end_front ?_
   refine sP (u2)<|sP (.bool b3)<|sP (u2)<|sP (.bool b3) ?_
   refine sG<|Sy.ret ?_
   rw [show (vfB m NR nk X Y I s d NR sn && Im (rgM m NR nk X Y I) sd nk s (eE s (rgM m NR nk X Y I) X Y I d) X Y I NR)=b3 from by unfold vfB; rw [← hb1, ← hbM, ← hb2, ← hb3]; rfl, ← hbM]
   exact Bb M2 rfl (v:=u2) (u:=.bool b3) (.inl (show _=_ by kernel_rfl)) (.inl (show _=_ by kernel_rfl)) (λw hw=>St.parts (ls:=[[(g0,23,(sd.map bv).toArray)],[(g1,31,(AK d W NR cW).toArray)],[(g2,83,(Af R NR cR bM).toArray)],M2,M1]) (ms:=[M2]) [[(g0,23,(sd.map bv).toArray)],[(g1,31,(AK d W NR cW).toArray)],[(g2,83,(Af R NR cR bM).toArray)],M1] [3,0,1,2,4] kR (by rfl) (by rfl) (by simp) hw) hR2
end Cu
end
section
namespace Cu
open Go.RowKit Sy
def dnA (bm sd:List UInt8) (i:Nat) (s:Nat→Nat) (n:Nat):Nat→Int
 | 0 => -1
 | k+1=>if s (n - 1 - k)=rgF bm sd i (n - 1 - k) then dnA bm sd i s n k else ((n - 1 - k:Nat):Int)
section
variable {bm sd:List UInt8} {i n k p:Nat} {s:Nat→Nat}
theorem L2 (hp:p=n - 1 - k) (h:s p≠rgF bm sd i p):dnA bm sd i s n (k+1)=((p:Nat):Int):=by subst hp; unfold dnA; rw [if_neg h]
theorem OS (hp:p=n - 1 - k) (h:s p=rgF bm sd i p):dnA bm sd i s n (k+1)=dnA bm sd i s n k:=by subst hp; conv=>lhs; unfold dnA; rw [if_pos h]
theorem LE:∀ k,k≤n→(dnA bm sd i s n k = -1∧∀ j,n - k≤j→j<n→s j=rgF bm sd i j)∨∃ a:Nat,dnA bm sd i s n k=(a:Int)∧n - k≤a∧a<n∧s a≠rgF bm sd i a∧∀ j,n - k≤j→j<a→s j=rgF bm sd i j
 | 0,_=>.inl ⟨rfl,λj h1 h2=>absurd h2 (by omega)⟩
 | k+1,hk=>by
  by_cases h:s (n - 1 - k)=rgF bm sd i (n - 1 - k)
  ·rw [OS rfl h]
   rcases LE k (by omega) with ⟨h1,h2⟩ | ⟨a,h1,h2,h3,h4,h5⟩
   ·refine .inl ⟨h1,λj q1 q2=>?_⟩
    by_cases e:j=n - 1 - k
    ·rw [e]; exact h
    ·exact h2 j (by omega) q2
   ·refine .inr ⟨a,h1,by omega,h3,h4,λj q1 q2=>?_⟩
    by_cases e:j=n - 1 - k
    ·rw [e]; exact h
    ·exact h5 j (by omega) q2
  ·rw [L2 rfl h]
   exact .inr ⟨n - 1 - k,rfl,by omega,by omega,h,λj q1 q2=>absurd q2 (by omega)⟩
theorem RJ {y:Int} (hy:y=dnA bm sd i s n n) (h:y<0):¬ atI bm sd i s n<n:=by
 rcases LE (bm:=bm) (sd:=sd) (i:=i) (s:=s) n (Nat.le_refl n) with ⟨_,h2⟩ | ⟨a,h1,_⟩
 ·rw [I6 bm sd i s (Nat.le_refl n) (λj hj=>h2 j (by omega) hj) (λh=>absurd h (Nat.lt_irrefl _))]
  exact Nat.lt_irrefl _
 ·rw [hy,h1] at h
  omega
theorem RI {y:Int} (hy:y=dnA bm sd i s n n) (h:¬ y<0):y=((atI bm sd i s n:Nat):Int)∧atI bm sd i s n<n:=by
 rcases LE (bm:=bm) (sd:=sd) (i:=i) (s:=s) n (Nat.le_refl n) with ⟨h1,_⟩ | ⟨a,h1,_,h3,h4,h5⟩
 ·rw [hy,h1] at h
  omega
 ·have e:=I6 bm sd i s (Nat.le_of_lt h3) (λj hj=>h5 j (by omega) hj) (λ_=>h4)
  rw [e,hy,h1]
  exact ⟨rfl,h3⟩
end
set_option maxHeartbeats 4000000 in
set_option maxRecDepth 100000 in
theorem Mg (w:World) (sd:List UInt8) (hsd:sd.length=32) (A:Option Addr) (m:List UInt8) (n c:Nat) (hm:m.length=n) (hm9:n≤999000000) (hc:n≤c) (hc2:c≤9223372036854775807) (hs0:Sh.Src w A m) (R:Option Addr) (NR cR:Nat) (a:Nat→Option Addr) (nk ck:Nat→Nat) (X Y:Nat→Nat→Nat) (I:Nat→Nat→Bool) (hX:∀ i k,X i k<K4) (hY:∀ i k,Y i k<K4) (hNR:NR≤4611686018427387904) (hnk:∀ i,nk i≤4611686018427387904) (hlr:Lst w 1 R NR (λi=>[.slice (a i) (nk i) (ck i)])) (hlk:∀ i,i<NR→Lst w 9 (a i) (nk i) (λk=>pml (X i k) (Y i k) (I i k))) (d:List UInt8) (hd:d.length=32) (W:Option Addr) (NW cW:Nat) (sa:Nat→Option Addr) (sn sc:Nat→Nat) (s:Nat→Nat→Nat) (hsc:∀ i k,s i k<K4) (hNW:NW≤4611686018427387904) (hsn9:∀ i,i<NW→sn i≤4611686018427387904) (hlw:Lst w 1 W NW (λi=>[.slice (sa i) (sn i) (sc i)])) (hls:∀ i,i<NW→Lst w 4 (sa i) (sn i) (λk=>fws (s i k))) (htr:Sh.TabAt w 0):Calls Tryz.prog 17 #[.agg (sd.map bv).toArray,.slice A n c,.slice R NR cR,Ar d W NW cW] w (GetsN w (SecsR (vfB m NR nk X Y I s d NW sn && Im (rgM m NR nk X Y I) sd nk s (eE s (rgM m NR nk X Y I) X Y I d) X Y I NR) (λi=>Ai (GZ (rgM m NR nk X Y I) sd nk s i) (Kj (rgM m NR nk X Y I) sd nk s (eE s (rgM m NR nk X Y I) X Y I d) i)) NR)):=by
 have hlr0:=hlr
 obtain ⟨gR,oR,hR⟩:=hlr
 have hlw0:=hlw
 obtain ⟨gW,oW,hW⟩:=hlw
 refine Sy.enter (args:=[.agg (sd.map bv).toArray,.slice A n c,.slice R NR cR,Ar d W NW cW]) Tryz.func17 rfl kL ?_
 refine sC ?_
 refine sM 23 (sd.map bv).toArray (λg0=>?_)
 refine sM 31 (AK d W NW cW).toArray (λg1=>?_)
 refine sP (.slice none 0 0)<|sP (.bool false) ?_
 refine sA ?_
 refine sP (.slice A n c)<|sP (.slice R NR cR)<|sS (Ar d W NW cW) (Quiet.load 1 g1 0 33 31 31 (AK d W NW cW).toArray _ _ rfl kR kR Tryz.underlying31 rfl kR _ (CG hd) (DQ hd)) ?_
 obtain ⟨b1,hb1⟩:∃ z:Bool,z=vfB m NR nk X Y I s d NW sn:=⟨_,rfl⟩
 refine sS (.bool b1) (qG 19 #[.slice A n c,.slice R NR cR,Ar d W NW cW] (λw hw=>by rw [hb1]; exact FT w A m n c hm hm9 hc hc2 (hs0.below hw.below) R NR cR a nk ck X Y I hX hY hNR hnk (hlr0.below hw.below) (λi hi=>(hlk i hi).below hw.below) d hd W NW cW sa sn sc s hsc hNW hsn9 (hlw0.below hw.below) (λi hi=>(hls i hi).below hw.below) (htr.below hw.below htr.lt)))<|sP (.bool b1) ?_
 refine sG<|Sy.seq<|sC ?_
 refine sP (.bool b1) ?_
 cases b1
 ·refine sP (.bool true) ?_
  refine sG<|sT<|sC ?_
  refine sP (.slice none 0 0)<|sP (.bool false) ?_
  refine sG<|Sy.ret<|Sy.then_ret ?_
  exact Bb [] rfl (v:=.slice none 0 0) (u:=.bool false) (.inl (show _=_ by kernel_rfl)) (.inl (show _=_ by kernel_rfl)) (λ_ hw=>hw.none) (.inl ⟨by rw [← hb1]; rfl,rfl,rfl⟩)
 ·have hvf:=hb1
  unfold vfB at hvf
  obtain ⟨hvf1,hvf2⟩:=Bool.and_eq_true_iff.1 hvf.symm
  obtain ⟨hN32,hn64,hn1,hN1⟩:=DC hvf1.symm
  obtain ⟨hNN,hsn⟩:=IC hvf2.symm
  obtain rfl:NR=NW:=hNN.symm
  clear hvf hvf1 hvf2 hNN
  refine sP (.bool false) ?_
  refine sG<|sU<|Sy.skip<|sB ?_
  refine sP (.slice A n c)<|sP (.slice R NR cR) ?_
  obtain ⟨bM,hbM⟩:∃ l,l=rgM m NR nk X Y I:=⟨_,rfl⟩
  have hbl:bM.length=32:=by rw [hbM]; exact DW _ _ _ _ _ _
  refine Sy.callN kR 21 #[.slice A n c,.slice R NR cR] kF ((λvq Mq=>∃ (g:Nat) (sp:List Value) (cap:Nat),vq=.slice (some ⟨g,0,none⟩) 32 cap∧(32≤cap∧cap≤9223372036854775807)∧Mq=[(g,5,(bM.map bv++sp).toArray)])) (λw hw=>by rw [hbM]; exact N8 w A m n c hm hm9 hc hc2 (hs0.below hw.below) R NR cR a nk ck X Y I hX hY hNR hnk (hlr0.below hw.below) (λi hi=>(hlk i hi).below hw.below) hN32 hn64 (htr.below hw.below htr.lt)) (λvq Mq hR0=>?_)
  obtain ⟨qx,spx,cpx,rfl,hcx,rfl⟩:=hR0
  refine sP (.slice (some ⟨qx,0,none⟩) 32 cpx) ?_
  refine sA ?_
  refine sP (.slice none 0 0) ?_
  refine sG<|Sy.seq<|sC ?_
  refine sP (.int .i64 0) ?_
  refine sG<|Sy.block ?_
  refine Sy.loopT (Y:=Slc) NR (λk1 y1=>[(2,.slice R NR cR),(4,.pointer (some ⟨g0,0,none⟩)),(7,.pointer (some ⟨g1,0,none⟩)),(11,.slice (some ⟨qx,0,none⟩) 32 cpx),(12,y1.v),(13,.int .i64 ((k1:Nat):Int))]) (λk1 y1=>[(g0,23,(sd.map bv).toArray),(g1,31,(AK d W NR cW).toArray),(qx,5,(bM.map bv++spx).toArray)]++(y1.bl++([]))) (λk1 y1=>y1.Is 48 5 ((List.range k1).map (λi=>Ai (GZ bM sd nk s i) (Kj bM sd nk s (eE s bM X Y I d) i)))∧∀ i,i<k1→Il bM sd nk s (eE s bM X Y I d) X Y I i=true) nilS ⟨Slc.Is.nil _ _,λi hi=>absurd hi (Nat.not_lt_zero _)⟩ ac6 (λw hw=>hw) (λk1 y1 hk1 hh1=>?_)
  refine Sy.seq<|sC ?_
  refine sP (.int .i64 ((k1:Nat):Int))<|sP (.slice R NR cR)<|sP (.int .i64 ((NR:Nat):Int)) ?_
  obtain ⟨b2,hb2⟩:∃ z:Bool,z=decide (k1<NR):=⟨_,rfl⟩
  refine sS (.bool b2) (Quiet.pure (AC .lss _ _ _ .i64 _ _ _ rfl rfl rfl (AY _ _ _ _ _ (by rw [hb2]; exact decide_eq_decide.2 (by omega))))) ?_
  refine sG ?_
  cases b2
  ·have lb2:¬ (k1<NR):=of_decide_eq_false hb2.symm
   refine sU<|Sy.exit<|Sy.then_exit<|Sy.then_exit ?_
   obtain rfl:NR=k1:=by omega
   refine Sy.in_exit<|sB ?_
   refine sP (y1.v)<|sP (y1.v)<|sP (.bool true) ?_
   refine sG<|Sy.ret ?_
   exact Bb y1.bl rfl (v:=y1.v) (u:=.bool true) (.inl (show _=_ by kernel_rfl)) (.inl (show _=_ by kernel_rfl)) (λw hw=>St.parts (ls:=[[(g0,23,(sd.map bv).toArray)],[(g1,31,(AK d W NR cW).toArray)],[(qx,5,(bM.map bv++spx).toArray)],y1.bl]) (ms:=[y1.bl]) [[(g0,23,(sd.map bv).toArray)],[(g1,31,(AK d W NR cW).toArray)],[(qx,5,(bM.map bv++spx).toArray)]] [3,0,1,2] kR (by rfl) (by rfl) (by simp) hw) (.inr ⟨by rw [← hb1, ← hbM,Jd hh1.2]; rfl,y1,rfl,rfl,by rw [← hbM]; exact hh1.1⟩)
  ·have lb2:k1<NR:=of_decide_eq_true hb2.symm
   have hnk1:=hn64 k1 lb2
   have hnk0:=hn1 k1 lb2
   obtain ⟨gK,oK,hT⟩:=hlk k1 lb2
   obtain ⟨gS,oS,hS⟩:=hls k1 lb2
   have hsk:=hsn k1 lb2
   refine sT<|Sy.skip<|Sy.then_<|Sy.seq<|Sy.block<|sC ?_
   refine sP (.int .i64 (-1)) ?_
   refine sG<|Sy.seq<|sC ?_
   refine sP (.slice R NR cR)<|sP (.int .i64 ((k1:Nat):Int))<|sS (.pointer (some ⟨gR,oR+k1*1,none⟩)) (Quiet.pure (AJ 25 _ _ _ R gR oR NR cR k1 1 .i64 (hR (by omega)).1 rfl rfl rfl Tryz.underlying25 kF (by omega)))<|sS (.slice (a k1) (nk k1) (ck k1)) (Quiet.thereOne gR (oR+k1*1) 49 _ _ rfl kR (hR (by omega)).2.1 _ (AR ((hR (by omega)).2.2 k1 (by omega)) 0 rfl) Tryz.underlying49 rfl)<|sP (.int .i64 (((nk k1):Nat):Int))<|sS (.int .i64 (((nk k1) - 1:Nat):Int)) (Quiet.pure (AC .sub _ _ _ .i64 _ _ _ rfl rfl rfl (D_ _ _ _ _ _ ((AH (by omega) (by omega)).trans (by omega)))))<|sP (.int .i64 (((nk k1) - 1:Nat):Int)) ?_
   refine sG<|Sy.block ?_
   refine Sy.loopT (Y:=Int×Int) (nk k1) (λk2 y2=>[(2,.slice R NR cR),(4,.pointer (some ⟨g0,0,none⟩)),(7,.pointer (some ⟨g1,0,none⟩)),(11,.slice (some ⟨qx,0,none⟩) 32 cpx),(12,y1.v),(13,.int .i64 ((k1:Nat):Int)),(14,.int .i64 y2.1),(15,.int .i64 y2.2)]) (λk2 y2=>[(g0,23,(sd.map bv).toArray),(g1,31,(AK d W NR cW).toArray),(qx,5,(bM.map bv++spx).toArray)]++(y1.bl++([]))) (λk2 y2=>y2.1=dnA bM sd k1 (s k1) (nk k1) k2∧y2.2=((nk k1:Nat):Int) - 1 - ((k2:Nat):Int)) ((-1:Int),((nk k1 - 1:Nat):Int)) ⟨rfl,by show ((nk k1 - 1:Nat):Int)=_; omega⟩ ac8 (λw hw=>hw) (λk2 y2 hk2 hh2=>?_)
   refine Sy.seq<|sC ?_
   refine sP (.int .i64 y2.2) ?_
   obtain ⟨b3,hb3⟩:∃ z:Bool,z=decide (y2.2 ≥ 0):=⟨_,rfl⟩
   refine sS (.bool b3) (Quiet.pure (AC .geq _ _ _ .i64 _ _ _ rfl rfl rfl (D' _ _ _ _ _ hb3.symm))) ?_
   refine sG ?_
   cases b3
   ·have lb3:¬ (y2.2 ≥ 0):=of_decide_eq_false hb3.symm
    refine sU<|Sy.exit<|Sy.then_exit<|Sy.then_exit ?_
    obtain rfl:k2=nk k1:=by omega
    refine Sy.in_exit<|Sy.then_<|Sy.seq<|sC ?_
    refine sP (.int .i64 y2.1) ?_
    obtain ⟨b4,hb4⟩:∃ z:Bool,z=decide (y2.1<0):=⟨_,rfl⟩
    refine sS (.bool b4) (Quiet.pure (AC .lss _ _ _ .i64 _ _ _ rfl rfl rfl (AY _ _ _ _ _ hb4.symm))) ?_
    refine sG ?_
    cases b4
    ·have lb4:¬ (y2.1<0):=of_decide_eq_false hb4.symm
     obtain ⟨hya,hyn⟩:=RI hh2.1 lb4
     obtain ⟨qa,hqa⟩:∃ q,q=atI bM sd k1 (s k1) (nk k1):=⟨_,rfl⟩
     rw [← hqa] at hya hyn
     clear hh2 lb4 hb4
     obtain ⟨ya,yj⟩:=y2
     obtain rfl:ya=((qa:Nat):Int):=hya
     refine sU<|Sy.skip ?_
     refine sR (λj=>false) ?_
     refine sZ 0 rfl (.slice (some ⟨qx,0,none⟩) 32 cpx)<|sZ 1 rfl (.int .i64 ((k1:Nat):Int))<|sZ 2 rfl (.slice R NR cR)<|sZ 3 rfl (.int .i64 ((k1:Nat):Int))<|sD 4 rfl (.pointer (some ⟨gR,oR+k1*1,none⟩)) (Quiet.pure (AJ 25 _ _ _ R gR oR NR cR k1 1 .i64 (hR (by omega)).1 rfl rfl rfl Tryz.underlying25 kF (by omega)))<|sD 5 rfl (.slice (a k1) (nk k1) (ck k1)) (Quiet.thereOne gR (oR+k1*1) 49 _ _ rfl kR (hR (by omega)).2.1 _ (AR ((hR (by omega)).2.2 k1 (by omega)) 0 rfl) Tryz.underlying49 rfl)<|sZ 6 rfl (.pointer (some ⟨g1,0,none⟩))<|sD 7 rfl (.agg (d.map bv).toArray) (Quiet.load 1 g1 0 32 31 23 (AK d W NR cW).toArray _ _ rfl kR kR Tryz.underlying23 rfl kR _ (Eh hd) (Fo hd)) ?_
     refine sZ 8 rfl (.pointer (some ⟨g1,32,none⟩))<|sD 9 rfl (.slice W NR cW) (Quiet.cell 1 g1 32 31 29 (AK d W NR cW).toArray _ _ rfl kR kR Tryz.underlying29 rfl _ (Cb hd))<|sZ 10 rfl (.int .i64 ((k1:Nat):Int))<|sD 11 rfl (.pointer (some ⟨gW,oW+k1*1,none⟩)) (Quiet.pure (AJ 29 _ _ _ W gW oW NR cW k1 1 .i64 (hW (by omega)).1 rfl rfl rfl Tryz.underlying29 kF (by omega)))<|sD 12 rfl (.slice (sa k1) (sn k1) (sc k1)) (Quiet.thereOne gW (oW+k1*1) 55 _ _ rfl kR (hW (by omega)).2.1 _ (AR ((hW (by omega)).2.2 k1 (by omega)) 0 rfl) Tryz.underlying55 rfl)<|sZ 13 rfl (.int .i64 ((qa:Nat):Int))<|sD 14 rfl (.int .i64 ((qa+1:Nat):Int)) (Quiet.pure (AC .add _ _ _ .i64 _ _ _ rfl rfl rfl (AO _ _ _ _ _ ((AH (by omega) (by omega)).trans (by omega))))) ?_
     refine Sy.callND 15 rfl kR kR 24 #[.slice (some ⟨qx,0,none⟩) 32 cpx,.int .i64 ((k1:Nat):Int),.slice (a k1) (nk k1) (ck k1),.agg (d.map bv).toArray,.slice (sa k1) (sn k1) (sc k1),.int .i64 ((qa+1:Nat):Int)] kF (EsR (s k1) bM k1 (X k1) (Y k1) (I k1) d (qa+1)) (λw hw=>L0 w (some ⟨qx,0,none⟩) bM cpx hbl hcx.1 hcx.2 (D5 (hw.blk _ _ _ (List.mem_append.2 (.inl (List.mem_of_getElem? (i:=2) rfl)))).2) k1 (by omega) (a k1) (nk k1) (ck k1) (X k1) (Y k1) (I k1) (hX k1) (hY k1) ((hlk k1 (by omega)).below hw.below) d hd (sa k1) (sn k1) (sc k1) (s k1) (hsc k1) ((hls k1 (by omega)).below hw.below) (qa+1) (by omega) (by omega) (by omega) (htr.below hw.below htr.lt)) (λvq Mq hR0=>?_)
     obtain ⟨ye,xte,xe,rfl,rfl,hye,hxe⟩:=hR0
     refine Sy.permD Sy.end_front2 ?_
     obtain ⟨yev,yeb⟩:=ye
     obtain ⟨ge,ce,spe,hev,heb,he1,he2,he3⟩:=hye.open (Nat.succ_pos _)
     obtain ⟨fE,hfE⟩:∃ f:Nat→List Value,f=λj=>fws (eC (s k1) bM k1 (X k1) (Y k1) (I k1) d j):=⟨_,rfl⟩
     have hE4:∀ j,(fE j).length=4:=λj=>by rw [hfE]; rfl
     rw [← hfE] at heb
     obtain rfl:yev=_:=hev
     obtain rfl:yeb=_:=heb
     obtain ⟨ek,hek⟩:∃ k,k=eE s bM X Y I d k1 qa:=⟨_,rfl⟩
     have lek:ek<K4:=by rw [hek]; exact OQ _ _
     refine Sy.permD (M:=[(g0,23,(sd.map bv).toArray),(g1,31,(AK d W NR cW).toArray),(qx,5,(bM.map bv++spx).toArray),(ge,46,(AV fE (qa+1)++spe).toArray)]++(xe++(y1.bl++([])))) (by exact List.Perm.refl _) ?_
     refine sZ 16 rfl (.tuple #[.slice (some ⟨ge,0,none⟩) (qa+1) ce,.slice xte.A (Bg (qa+1)) xte.c])<|sZ 17 rfl (.slice (some ⟨ge,0,none⟩) (qa+1) ce)<|sZ 18 rfl (.slice xte.A (Bg (qa+1)) xte.c)<|sZ 19 rfl (.slice (some ⟨ge,0,none⟩) (qa+1) ce)<|sZ 20 rfl (.slice xte.A (Bg (qa+1)) xte.c) ?_
     refine sI ?_
     refine Sy.seq<|sC ?_
     refine sP (.slice (some ⟨ge,0,none⟩) (qa+1) ce)<|sP (.int .i64 ((qa:Nat):Int))<|sS (.pointer (some ⟨ge,0+qa*4,none⟩)) (Quiet.pure (Bf 55 _ _ _ ge 0 (qa+1) ce qa 4 .i64 rfl rfl rfl Tryz.underlying55 kF (by omega)))<|sS (fv ek) (Quiet.load 3 ge (0+qa*4) 4 46 46 (AV fE (qa+1)++spe).toArray _ _ rfl kR kR Tryz.underlying46 rfl kR _ ((En (k:=qa) hE4 (by omega) rfl).trans (by rw [hfE,hek]; rfl)) (FI (k:=qa) hE4 (by omega) rfl))<|sP (fv 0) ?_
     obtain ⟨b5,hb5⟩:∃ z:Bool,z=decide (ek=0):=⟨_,rfl⟩
     refine sS (.bool b5) (Quiet.pure (λw=>by rw [hb5]; exact LB w _ _ _ _ _ _ rfl rfl rfl (by first | exact hsc _ _ | exact CT _ _ _ _ | assumption | exact CC) (by first | exact hsc _ _ | exact CT _ _ _ _ | assumption | exact CC))) ?_
     refine sG ?_
     cases b5
     ·have lb5:¬ (ek=0):=of_decide_eq_false hb5.symm
      have hez:¬ ek=0:=lb5
      refine sU<|Sy.skip ?_
      refine sR (λj=>j == 20) ?_
      refine sD 0 rfl (.agg (sd.map bv).toArray) (Quiet.load 0 g0 0 32 23 23 (sd.map bv).toArray _ _ rfl kR kR Tryz.underlying23 rfl kR _ (A2 sd hsd) (BF sd hsd))<|sZ 1 rfl (.slice (some ⟨qx,0,none⟩) 32 cpx)<|sZ 2 rfl (.int .i64 ((k1:Nat):Int)) ?_
      obtain ⟨kn,hkn⟩:∃ k,k=rgN bM sd k1:=⟨_,rfl⟩
      refine sD 3 rfl (fv kn) (qG 48 #[.agg (sd.map bv).toArray,.slice (some ⟨qx,0,none⟩) 32 cpx,.int .i64 ((k1:Nat):Int)] (λw hw=>by rw [hkn]; exact Kr w sd hsd (some ⟨qx,0,none⟩) bM cpx hbl hcx.1 hcx.2 (D5 (hw.blk _ _ _ (List.mem_append.2 (.inl (List.mem_of_getElem? (i:=2) rfl)))).2) k1 (by omega) (htr.below hw.below htr.lt)))<|sZ 4 rfl (.pointer (some ⟨g1,32,none⟩))<|sD 5 rfl (.slice W NR cW) (Quiet.cell 1 g1 32 31 29 (AK d W NR cW).toArray _ _ rfl kR kR Tryz.underlying29 rfl _ (Cb hd))<|sZ 6 rfl (.int .i64 ((k1:Nat):Int))<|sD 7 rfl (.pointer (some ⟨gW,oW+k1*1,none⟩)) (Quiet.pure (AJ 29 _ _ _ W gW oW NR cW k1 1 .i64 (hW (by omega)).1 rfl rfl rfl Tryz.underlying29 kF (by omega)))<|sD 8 rfl (.slice (sa k1) (sn k1) (sc k1)) (Quiet.thereOne gW (oW+k1*1) 55 _ _ rfl kR (hW (by omega)).2.1 _ (AR ((hW (by omega)).2.2 k1 (by omega)) 0 rfl) Tryz.underlying55 rfl)<|sZ 9 rfl (.int .i64 ((qa:Nat):Int))<|sD 10 rfl (.pointer (some ⟨gS,oS+qa*4,none⟩)) (Quiet.pure (AJ 55 _ _ _ (sa k1) gS oS (sn k1) (sc k1) qa 4 .i64 (hS (by omega)).1 rfl rfl rfl Tryz.underlying55 kF (by omega))) ?_
      refine sD 11 rfl (fv (s k1 qa)) (Quiet.there gS (oS+qa*4) 4 46 (fws (s k1 qa)) _ _ rfl kR (hS (by omega)).2.1 ((hS (by omega)).2.2 qa (by omega)) Tryz.underlying46 rfl kR rfl _ rfl) ?_
      obtain ⟨ks,hks⟩:∃ k,k=Sc.subP kn (s k1 qa):=⟨_,rfl⟩
      refine sD 12 rfl (fv ks) (qF 52 #[fv kn,fv (s k1 qa)] (λw=>by rw [hks]; exact O2 w _ _ (by rw [hkn]; exact Ib _ _ _) (hsc _ _)))<|sZ 13 rfl (.slice (some ⟨ge,0,none⟩) (qa+1) ce)<|sZ 14 rfl (.int .i64 ((qa:Nat):Int))<|sD 15 rfl (.pointer (some ⟨ge,0+qa*4,none⟩)) (Quiet.pure (Bf 55 _ _ _ ge 0 (qa+1) ce qa 4 .i64 rfl rfl rfl Tryz.underlying55 kF (by omega)))<|sD 16 rfl (fv ek) (Quiet.load 3 ge (0+qa*4) 4 46 46 (AV fE (qa+1)++spe).toArray _ _ rfl kR kR Tryz.underlying46 rfl kR _ ((En (k:=qa) hE4 (by omega) rfl).trans (by rw [hfE,hek]; rfl)) (FI (k:=qa) hE4 (by omega) rfl)) ?_
      obtain ⟨kv,hkv⟩:∃ k,k=ivS ek:=⟨_,rfl⟩
      refine sD 17 rfl (fv kv) (qF 56 #[fv ek] (λw=>by rw [hkv]; exact Pj w _ lek)) ?_
      obtain ⟨kx,hkx⟩:∃ k,k=opX bM sd k1 (s k1) (eE s bM X Y I d k1) qa:=⟨_,rfl⟩
      have lkx:kx<K4:=by rw [hkx]; exact Km _ _ _ _ _ _
      refine sD 18 rfl (fv kx) (qF 53 #[fv ks,fv kv] (λw=>by rw [hkx]; unfold opX; rw [← hkn, ← hks, ← hek, ← hkv]; exact Pd w _ _ (by rw [hks]; exact Sc.subP_lt _ _) (by rw [hkv]; exact Iv _))) ?_
      refine sO 19 rfl 46 (fcs 0) (λg2=>?_)
      refine Sy.movTD ?_
      refine sX 20 rfl 4 g2 46 (fcs 0) (fcs kx) (wS 0 46 (fcs kx) rfl) ?_
      refine Sy.setTD ?_
      refine sI ?_
      refine Sy.seq<|Sy.seq ?_
      refine Sy.regionD (λj=>false) kR ?_
      refine sD 0 rfl (fv kx) (qL 4 g2 0 4 46 46 (fcs kx) rfl Tryz.underlying46)<|sD 1 rfl (pv (pX bP) (pY bP) (pI bP)) (qF 23 #[] (λw=>by rw [← CE]; exact I5 w)) ?_
      obtain ⟨R1,hR1⟩:∃ P:Pt,P=Ec.nm Ac (kx%Sc.pM) bP:=⟨_,rfl⟩
      have oR1:Ec.On R1:=by rw [hR1]; exact bP_on.nm fld _
      refine sD 2 rfl (pv (pX R1) (pY R1) (pI R1)) (qF 22 #[fv kx,pv (pX bP) (pY bP) (pI bP)] (Iq lP lP lP (CF bP_on) hR1.symm))<|sZ 3 rfl (.slice R NR cR)<|sZ 4 rfl (.int .i64 ((k1:Nat):Int))<|sD 5 rfl (.pointer (some ⟨gR,oR+k1*1,none⟩)) (Quiet.pure (AJ 25 _ _ _ R gR oR NR cR k1 1 .i64 (hR (by omega)).1 rfl rfl rfl Tryz.underlying25 kF (by omega)))<|sD 6 rfl (.slice (a k1) (nk k1) (ck k1)) (Quiet.thereOne gR (oR+k1*1) 49 _ _ rfl kR (hR (by omega)).2.1 _ (AR ((hR (by omega)).2.2 k1 (by omega)) 0 rfl) Tryz.underlying49 rfl)<|sZ 7 rfl (.int .i64 ((qa:Nat):Int))<|sD 8 rfl (.pointer (some ⟨gK,oK+qa*9,none⟩)) (Quiet.pure (AJ 49 _ _ _ (a k1) gK oK (nk k1) (ck k1) qa 9 .i64 (hT (by omega)).1 rfl rfl rfl Tryz.underlying49 kF (by omega)))<|sD 9 rfl (pv (X k1 qa) (Y k1 qa) (I k1 qa)) (Quiet.there gK (oK+qa*9) 9 52 (pml (X k1 qa) (Y k1 qa) (I k1 qa)) _ _ rfl kR (hT (by omega)).2.1 ((hT (by omega)).2.2 qa (by omega)) Tryz.underlying52 rfl kR rfl _ rfl) ?_
      obtain ⟨b6,hb6⟩:∃ z:Bool,z=!Bq kx (X k1 qa) (Y k1 qa) (I k1 qa):=⟨_,rfl⟩
      refine sD 10 rfl (.bool b6) (Quiet.pure (λw=>by rw [hb6,show Bq kx (X k1 qa) (Y k1 qa) (I k1 qa)=Cn (pX R1) (pY R1) (pI R1) (X k1 qa) (Y k1 qa) (I k1 qa) by rw [hR1]; rfl]; exact Q2 w _ _ _ _ _ _ _ _ _ _ rfl rfl rfl (Hz _) (Hy _) (hX _ _) (hY _ _))) ?_
      refine sI ?_
      cases b6
      ·have hopn:Bq kx (X k1 qa) (Y k1 qa) (I k1 qa)=true:=by rw [← Bool.not_not (Bq _ _ _ _), ← hb6]; rfl
       refine sU<|Sy.skip<|Sy.then_<|Sy.region ?_
       refine sP (y1.v)<|sP (.int .i64 ((qa:Nat):Int))<|sS (fv kx) (qL 4 g2 0 4 46 46 (fcs kx) rfl Tryz.underlying46)<|sP (Bo ((qa:Nat):Int) kx) ?_
       refine Sy.make kR 48 (Ai ((qa:Nat):Int) kx).toArray (λg=>.slice (some ⟨g,0,none⟩) 1 1) kF (λg3=>?_)
       refine Sy.movT ?_
       refine Sy.permS (M:=[(g0,23,(sd.map bv).toArray),(g1,31,(AK d W NR cW).toArray),(qx,5,(bM.map bv++spx).toArray),(ge,46,(AV fE (qa+1)++spe).toArray),(g2,46,(fcs kx)),(g3,48,(Ai ((qa:Nat):Int) kx).toArray)]++(y1.bl++(xe++([])))) (Sy.flat_perm (ls:=[[(g0,23,(sd.map bv).toArray),(g1,31,(AK d W NR cW).toArray),(qx,5,(bM.map bv++spx).toArray),(ge,46,(AV fE (qa+1)++spe).toArray),(g2,46,(fcs kx)),(g3,48,(Ai ((qa:Nat):Int) kx).toArray)],xe,y1.bl]) (ms:=[[(g0,23,(sd.map bv).toArray),(g1,31,(AK d W NR cW).toArray),(qx,5,(bM.map bv++spx).toArray),(ge,46,(AV fE (qa+1)++spe).toArray),(g2,46,(fcs kx)),(g3,48,(Ai ((qa:Nat):Int) kx).toArray)],y1.bl,xe]) [0,2,1] kR (by rfl) (by rfl) (by rfl)) ?_
       refine Sy.appendR kR 26 48 _ _ 5 40 Tryz.underlying26 Jn rfl rfl rfl rfl (by decide) _ _ rfl hh1.1 kR (Ai ((qa:Nat):Int) kx) rfl (DT _ _) 5 g3 48 kR kR (by rw [List.length_map,List.length_range]; omega) (by rw [List.length_map,List.length_range]; simp only [maxLen]; omega) (λr1 hr1=>?_)
       refine sP (r1.v) ?_
       refine Sy.nil<|Sy.in_<|Sy.then_<|Sy.region ?_
       refine sP (.int .i64 ((k1:Nat):Int))<|sS (.int .i64 ((k1+1:Nat):Int)) (Quiet.pure (AC .add _ _ _ .i64 _ _ _ rfl rfl rfl (AO _ _ _ _ _ ((AH (by omega) (by omega)).trans (by omega)))))<|sP (.int .i64 ((k1+1:Nat):Int)) ?_
       refine Sy.nil ?_
       have hok:Il bM sd nk s (eE s bM X Y I d) X Y I k1=true:=Hh hqa.symm hyn (by rw [← hek]; exact hez) (by rw [← hkx]; exact hopn)
       exact Sy.againT (r1) (by omega) (⟨by rw [List.range_succ,List.map_append]; rw [hqa,hkx,hqa] at hr1; exact hr1,λi hi=>(Nat.lt_succ_iff_lt_or_eq.1 hi).elim (hh1.2 i) (λh=>by subst h; exact hok)⟩) ac6 (λw hw=>St.parts (ls:=[[(g0,23,(sd.map bv).toArray)],[(g1,31,(AK d W NR cW).toArray)],[(qx,5,(bM.map bv++spx).toArray)],[(ge,46,(AV fE (qa+1)++spe).toArray)],[(g2,46,(fcs kx))],[(g3,48,(Ai ((qa:Nat):Int) kx).toArray)],r1.bl,xe]) (ms:=[[(g0,23,(sd.map bv).toArray)],[(g1,31,(AK d W NR cW).toArray)],[(qx,5,(bM.map bv++spx).toArray)],r1.bl]) [[(ge,46,(AV fE (qa+1)++spe).toArray)],[(g2,46,(fcs kx))],[(g3,48,(Ai ((qa:Nat):Int) kx).toArray)],xe] [0,1,2,6,3,4,5,7] kR (by rfl) (by rfl) (by rfl) hw)
      ·refine sT<|sC ?_
       refine sP (.slice none 0 0)<|sP (.bool false) ?_
       refine sG<|Sy.ret<|Sy.then_ret<|Sy.in_ret<|Sy.then_ret<|Sy.then_ret<|Sy.in_ret<|Sy.then_ret ?_
       exact Bb [] rfl (v:=.slice none 0 0) (u:=.bool false) (.inl (show _=_ by kernel_rfl)) (.inl (show _=_ by kernel_rfl)) (λ_ hw=>hw.none) (.inl ⟨by rw [← hbM,Fw (k:=k1) (by assumption) (Hi hqa.symm (by rw [← hkx, ← Bool.not_not (Bq _ _ _ _), ← hb6]; rfl)),Bool.and_false],rfl,rfl⟩)
     ·have lb5:ek=0:=of_decide_eq_true hb5.symm
      refine sT<|sC ?_
      refine sP (.slice none 0 0)<|sP (.bool false) ?_
      refine sG<|Sy.ret<|Sy.then_ret<|Sy.in_ret<|Sy.then_ret<|Sy.then_ret<|Sy.in_ret<|Sy.then_ret ?_
      exact Bb [] rfl (v:=.slice none 0 0) (u:=.bool false) (.inl (show _=_ by kernel_rfl)) (.inl (show _=_ by kernel_rfl)) (λ_ hw=>hw.none) (.inl ⟨by rw [← hbM,Fw (k:=k1) (by assumption) (Hj hqa.symm (hek.symm.trans lb5)),Bool.and_false],rfl,rfl⟩)
    ·have lb4:y2.1<0:=of_decide_eq_true hb4.symm
     refine sT<|sC ?_
     refine sP (.slice none 0 0)<|sP (.bool false) ?_
     refine sG<|Sy.ret<|Sy.then_ret<|Sy.in_ret<|Sy.then_ret<|Sy.then_ret<|Sy.in_ret<|Sy.then_ret ?_
     exact Bb [] rfl (v:=.slice none 0 0) (u:=.bool false) (.inl (show _=_ by kernel_rfl)) (.inl (show _=_ by kernel_rfl)) (λ_ hw=>hw.none) (.inl ⟨by rw [← hbM,Fw (k:=k1) (by assumption) (Hk rfl (RJ hh2.1 lb4)),Bool.and_false],rfl,rfl⟩)
   ·have lb3:y2.2 ≥ 0:=of_decide_eq_true hb3.symm
    refine sT<|Sy.skip<|Sy.then_<|Sy.seq<|Sy.block<|Sy.seq ?_
    refine Sy.regionD (λj=>false) kR ?_
    refine sZ 0 rfl (.pointer (some ⟨g1,32,none⟩))<|sD 1 rfl (.slice W NR cW) (Quiet.cell 1 g1 32 31 29 (AK d W NR cW).toArray _ _ rfl kR kR Tryz.underlying29 rfl _ (Cb hd))<|sZ 2 rfl (.int .i64 ((k1:Nat):Int))<|sD 3 rfl (.pointer (some ⟨gW,oW+k1*1,none⟩)) (Quiet.pure (AJ 29 _ _ _ W gW oW NR cW k1 1 .i64 (hW (by omega)).1 rfl rfl rfl Tryz.underlying29 kF (by omega)))<|sD 4 rfl (.slice (sa k1) (sn k1) (sc k1)) (Quiet.thereOne gW (oW+k1*1) 55 _ _ rfl kR (hW (by omega)).2.1 _ (AR ((hW (by omega)).2.2 k1 (by omega)) 0 rfl) Tryz.underlying55 rfl)<|sZ 5 rfl (.int .i64 y2.2) ?_
    obtain ⟨p1,hp1⟩:∃ q:Nat,y2.2=(q:Int):=⟨(y2.2).toNat,by omega⟩
    refine sD 6 rfl (.pointer (some ⟨gS,oS+p1*4,none⟩)) (Quiet.pure (AJ 55 _ _ _ (sa k1) gS oS (sn k1) (sc k1) p1 4 .i64 (hS (by omega)).1 rfl rfl (show Value.int .i64 y2.2=.int .i64 ((p1:Nat):Int) from by rw [hp1]) Tryz.underlying55 kF (by omega)))<|sD 7 rfl (fv (s k1 p1)) (Quiet.there gS (oS+p1*4) 4 46 (fws (s k1 p1)) _ _ rfl kR (hS (by omega)).2.1 ((hS (by omega)).2.2 p1 (by omega)) Tryz.underlying46 rfl kR rfl _ rfl)<|sD 8 rfl (.agg (sd.map bv).toArray) (Quiet.load 0 g0 0 32 23 23 (sd.map bv).toArray _ _ rfl kR kR Tryz.underlying23 rfl kR _ (A2 sd hsd) (BF sd hsd))<|sZ 9 rfl (.slice (some ⟨qx,0,none⟩) 32 cpx)<|sZ 10 rfl (.int .i64 ((k1:Nat):Int))<|sZ 11 rfl (.int .i64 y2.2)<|sD 12 rfl (fv (rgF bM sd k1 p1)) (qG 25 #[.agg (sd.map bv).toArray,.slice (some ⟨qx,0,none⟩) 32 cpx,.int .i64 ((k1:Nat):Int),.int .i64 y2.2] (λw hw=>by rw [hp1]; exact Mw w sd hsd (some ⟨qx,0,none⟩) bM cpx hbl hcx.1 hcx.2 (D5 (hw.blk _ _ _ (List.mem_append.2 (.inl (List.mem_of_getElem? (i:=2) rfl)))).2) k1 p1 (by omega) (by omega) (htr.below hw.below htr.lt))) ?_
    obtain ⟨b7,hb7⟩:∃ z:Bool,z=decide ((s k1 p1)≠(rgF bM sd k1 p1)):=⟨_,rfl⟩
    refine sD 13 rfl (.bool b7) (Quiet.pure (λw=>by rw [hb7,decide_not]; exact Kv w _ _ _ _ _ _ rfl rfl rfl (by first | exact hsc _ _ | exact CT _ _ _ _ | assumption | exact CC) (by first | exact hsc _ _ | exact CT _ _ _ _ | assumption | exact CC))) ?_
    refine sI ?_
    cases b7
    ·have lb7:¬ ((s k1 p1)≠(rgF bM sd k1 p1)):=of_decide_eq_false hb7.symm
     refine sU<|Sy.skip<|Sy.in_<|Sy.then_<|Sy.region ?_
     refine sP (.int .i64 y2.2)<|sS (.int .i64 (y2.2 - 1)) (Quiet.pure (AC .sub _ _ _ .i64 _ _ _ rfl rfl rfl (D_ _ _ _ _ _ (AH (by omega) (by omega)))))<|sP (.int .i64 (y2.2 - 1)) ?_
     refine Sy.nil ?_
     exact Sy.againT ((y2.1,y2.2 - 1)) (by omega) (⟨by rw [OS (p:=p1) (by omega) (Decidable.of_not_not lb7)]; exact hh2.1,by show y2.2 - 1=_; omega⟩) ac8 (λw hw=>hw)
    ·have lb7:(s k1 p1)≠(rgF bM sd k1 p1):=of_decide_eq_true hb7.symm
     refine sT<|Sy.region ?_
     refine sP (.int .i64 y2.2)<|sP (.int .i64 y2.2) ?_
     refine Sy.nil<|Sy.in_<|Sy.then_<|Sy.region ?_
     refine sP (.int .i64 y2.2)<|sS (.int .i64 (y2.2 - 1)) (Quiet.pure (AC .sub _ _ _ .i64 _ _ _ rfl rfl rfl (D_ _ _ _ _ _ (AH (by omega) (by omega)))))<|sP (.int .i64 (y2.2 - 1)) ?_
     refine Sy.nil ?_
     exact Sy.againT ((y2.2,y2.2 - 1)) (by omega) (⟨by rw [L2 (p:=p1) (by omega) lb7]; exact hp1,by show y2.2 - 1=_; omega⟩) ac8 (λw hw=>hw)
end Cu
end
section
namespace Cu
open Go.RowKit Sy
def uB (b:Bool) (N:Nat):Nat:=if b then N else 0
theorem Rd {b:Bool} {N:Nat}:uB b N≤N:=by unfold uB; split; exact Nat.le_refl _; exact Nat.zero_le _
def RY (w0:Base) (b:Bool) (N:Nat) (At:Nat→Int) (x:Nat→Nat) (v:Value) (M:AE):Prop:=∃ (A:Option Addr) (c:Nat),v=.tuple #[.slice A N c,.bool b]∧∀ (w:World) (L:AE),St w0 w L→(∀ b∈M,b∈L)→Lst w 5 A N (λi=>Ai (At i) (x i))
theorem SecsR.uni {w0:Base} {b:Bool} {At:Nat→Int} {x:Nat→Nat} {N:Nat} {v:Value} {M:AE} (h:SecsR b (λi=>Ai (At i) (x i)) N v M):RY w0 b (uB b N) At x v M:=by
 rcases h with ⟨rfl,rfl,rfl⟩ | ⟨rfl,y,rfl,rfl,hy⟩
 ·exact ⟨none,0,rfl,λ_ _ _ _=>⟨0,0,λh=>absurd h (Nat.lt_irrefl _)⟩⟩
 ·obtain ⟨A,c,h1,h2,h3,h4⟩:=hy.out
  have hl:((List.range N).map λi=>Ai (At i) (x i)).length=N:=by rw [List.length_map,List.length_range]
  rw [hl] at h1 h4
  refine ⟨A,c,by rw [h1]; rfl,λw L hw hb=>Ez (h4 hw hb) (λi hi=>?_)⟩
  have hi':i<N:=hi
  rw [List.getD_eq_getElem?_getD,List.getElem?_map,List.getElem?_range hi']
  rfl
theorem J2 (w:World) (F:AU) (o:Oper) (x y:Operand) (b:Bool) {yt:TypeId} (ho:o.op=.binOp .eql 4 x y yt) (hx:evF F x=.bool b) (hy:evF F y=.bool b):(execOp (evF F) o).run Tryz.prog w=.ok (.value (.bool true)) w:=by
 have h1:(eqGuard .eql 4 x y (.bool b) (.bool b)).run Tryz.prog w=.ok () w:=by go_simp
 have h2:(binOp .eql 4 (.bool b) (.bool b)).run Tryz.prog w=.ok (.bool true) w:=by cases b <;> kernel_rfl
 unfold execOp
 simp only [ho,hx,hy,Sem.run_bind,h1,h2,Result.andThen_ok,Sem.run_pure]
set_option maxHeartbeats 4000000 in
set_option maxRecDepth 100000 in
theorem law_ringverifies (w:World) (sd:List UInt8) (hsd:sd.length=32) (A:Option Addr) (m:List UInt8) (n c:Nat) (hm:m.length=n) (hm9:n≤999000000) (hc:n≤c) (hc2:c≤9223372036854775807) (hs0:Sh.Src w A m) (R:Option Addr) (NR cR:Nat) (a:Nat→Option Addr) (nk ck:Nat→Nat) (X Y:Nat→Nat→Nat) (I:Nat→Nat→Bool) (hX:∀ i k,X i k<K4) (hY:∀ i k,Y i k<K4) (hNR:NR≤4611686018427387904) (hnk:∀ i,nk i≤4611686018427387904) (hlr:Lst w 1 R NR (λi=>[.slice (a i) (nk i) (ck i)])) (hlk:∀ i,i<NR→Lst w 9 (a i) (nk i) (λk=>pml (X i k) (Y i k) (I i k))) (hN9:NR≤17592186044416) (S:Option Addr) (NS cS:Nat) (d:List UInt8) (hd:d.length=32) (W:Option Addr) (NW cW:Nat) (sa:Nat→Option Addr) (sn sc:Nat→Nat) (s:Nat→Nat→Nat) (hsc:∀ i k,s i k<K4) (hNW:NW≤4611686018427387904) (hsn9:∀ i,i<NW→sn i≤4611686018427387904) (hlw:Lst w 1 W NW (λi=>[.slice (sa i) (sn i) (sc i)])) (hls:∀ i,i<NW→Lst w 4 (sa i) (sn i) (λk=>fws (s i k))) (ht:Sh.TabAt w 1) (htr:Sh.TabAt w 0):Calls Tryz.prog 4 #[csv sd [.slice A n c,.slice R NR cR,.slice S NS cS],Ar d W NW cW] w (Gets w (.bool true)):=by
 obtain ⟨bV,hbV⟩:∃ b,b=vfB m NR nk X Y I s d NW sn:=⟨_,rfl⟩
 obtain ⟨b0,hb0⟩:∃ b,b=(vfB m NR nk X Y I s d NW sn && Im (rgM m NR nk X Y I) sd nk s (eE s (rgM m NR nk X Y I) X Y I d) X Y I NR):=⟨_,rfl⟩
 obtain ⟨N0,hN0⟩:∃ k,k=uB (vfB m NR nk X Y I s d NW sn && Im (rgM m NR nk X Y I) sd nk s (eE s (rgM m NR nk X Y I) X Y I d) X Y I NR) NR:=⟨_,rfl⟩
 have hN0l:N0≤NR:=by rw [hN0]; exact Rd
 obtain ⟨A0,hA0⟩:∃ f,f=GZ (rgM m NR nk X Y I) sd nk s:=⟨_,rfl⟩
 obtain ⟨x0,hx0⟩:∃ f,f=Kj (rgM m NR nk X Y I) sd nk s (eE s (rgM m NR nk X Y I) X Y I d):=⟨_,rfl⟩
 have hx04:∀ i,x0 i<K4:=λi=>by rw [hx0]; exact Km _ _ _ _ _ _
 refine Sy.enter (args:=[csv sd [.slice A n c,.slice R NR cR,.slice S NS cS],Ar d W NW cW]) Tryz.func4 rfl kL ?_
 refine sC ?_
 refine sM 28 (csl sd [.slice A n c,.slice R NR cR,.slice S NS cS]).toArray (λg0=>?_)
 refine sM 31 (AK d W NW cW).toArray (λg1=>?_)
 refine sP (.bool false) ?_
 refine sA ?_
 refine sP (.pointer (some ⟨g0,0,none⟩))<|sS (.agg (sd.map bv).toArray) (Quiet.load 0 g0 0 32 28 23 (csl sd [.slice A n c,.slice R NR cR,.slice S NS cS]).toArray _ _ rfl kR kR Tryz.underlying23 rfl kR _ (J8 hsd) (L5 hsd))<|sP (.pointer (some ⟨g0,32,none⟩))<|sS (.slice A n c) (Quiet.cell 0 g0 32 28 24 (csl sd [.slice A n c,.slice R NR cR,.slice S NS cS]).toArray _ _ rfl kR kR Tryz.underlying24 rfl _ (Fd hsd 0))<|sP (.pointer (some ⟨g0,33,none⟩))<|sS (.slice R NR cR) (Quiet.cell 0 g0 33 28 25 (csl sd [.slice A n c,.slice R NR cR,.slice S NS cS]).toArray _ _ rfl kR kR Tryz.underlying25 rfl _ (Fd hsd 1))<|sS (Ar d W NW cW) (Quiet.load 1 g1 0 33 31 31 (AK d W NW cW).toArray _ _ rfl kR kR Tryz.underlying31 rfl kR _ (CG hd) (DQ hd)) ?_
 refine Sy.callN kR 16 #[.agg (sd.map bv).toArray,.slice A n c,.slice R NR cR,Ar d W NW cW] kF (RY (Base.of w) b0 N0 A0 x0) (λw hw=>by rw [hb0,hN0,hA0,hx0]; exact Calls.mono (NA w sd hsd A m n c hm hm9 hc hc2 (hs0.below hw.below) R NR cR a nk ck X Y I hX hY hNR hnk (hlr.below hw.below) (λi hi=>(hlk i hi).below hw.below) hN9 d hd W NW cW sa sn sc s hsc hNW hsn9 (hlw.below hw.below) (λi hi=>(hls i hi).below hw.below) (ht.below hw.below ht.lt)) (λe w' ⟨v,M,q1,q2,q3⟩=>⟨v,M,q1,SecsR.uni q2,q3⟩)) (λvq Mq hR0=>?_)
 obtain ⟨M1,rfl⟩:∃ M,M=Mq:=⟨_,rfl⟩
 obtain ⟨W1,c1,rfl,hU1⟩:=hR0
 refine Sy.permS (M:=[(g0,28,(csl sd [.slice A n c,.slice R NR cR,.slice S NS cS]).toArray),(g1,31,(AK d W NW cW).toArray)]++(M1++([]))) (by rw [List.append_nil]; exact List.Perm.refl _) ?_
 refine sP (.tuple #[.slice W1 N0 c1,.bool b0])<|sP (.slice W1 N0 c1)<|sP (.bool b0)<|sP (.slice W1 N0 c1)<|sP (.bool b0) ?_
 refine sA ?_
 refine sP (.pointer (some ⟨g0,0,none⟩))<|sS (.agg (sd.map bv).toArray) (Quiet.load 0 g0 0 32 28 23 (csl sd [.slice A n c,.slice R NR cR,.slice S NS cS]).toArray _ _ rfl kR kR Tryz.underlying23 rfl kR _ (J8 hsd) (L5 hsd))<|sP (.pointer (some ⟨g0,32,none⟩))<|sS (.slice A n c) (Quiet.cell 0 g0 32 28 24 (csl sd [.slice A n c,.slice R NR cR,.slice S NS cS]).toArray _ _ rfl kR kR Tryz.underlying24 rfl _ (Fd hsd 0))<|sP (.pointer (some ⟨g0,33,none⟩))<|sS (.slice R NR cR) (Quiet.cell 0 g0 33 28 25 (csl sd [.slice A n c,.slice R NR cR,.slice S NS cS]).toArray _ _ rfl kR kR Tryz.underlying25 rfl _ (Fd hsd 1))<|sS (Ar d W NW cW) (Quiet.load 1 g1 0 33 31 31 (AK d W NW cW).toArray _ _ rfl kR kR Tryz.underlying31 rfl kR _ (CG hd) (DQ hd)) ?_
 refine Sy.callN kR 17 #[.agg (sd.map bv).toArray,.slice A n c,.slice R NR cR,Ar d W NW cW] kF (RY (Base.of w) b0 N0 A0 x0) (λw hw=>by rw [hb0,hN0,hA0,hx0]; exact Calls.mono (Mg w sd hsd A m n c hm hm9 hc hc2 (hs0.below hw.below) R NR cR a nk ck X Y I hX hY hNR hnk (hlr.below hw.below) (λi hi=>(hlk i hi).below hw.below) d hd W NW cW sa sn sc s hsc hNW hsn9 (hlw.below hw.below) (λi hi=>(hls i hi).below hw.below) (htr.below hw.below htr.lt)) (λe w' ⟨v,M,q1,q2,q3⟩=>⟨v,M,q1,SecsR.uni q2,q3⟩)) (λvq Mq hR0=>?_)
 obtain ⟨M2,rfl⟩:∃ M,M=Mq:=⟨_,rfl⟩
 obtain ⟨W2,c2,rfl,hU2⟩:=hR0
 refine Sy.permS Sy.end_front ?_
 refine sP (.tuple #[.slice W2 N0 c2,.bool b0])<|sP (.slice W2 N0 c2)<|sP (.bool b0)<|sP (.slice W2 N0 c2)<|sP (.bool b0) ?_
 refine sH (λj=>false) ?_
 refine sD 0 rfl (.bool true) (qG 14 #[] (λw hw=>RS w (ht.below hw.below ht.lt)))<|sZ 1 rfl (.bool true)<|sZ 2 rfl (.pointer (some ⟨g0,32,none⟩))<|sD 3 rfl (.slice A n c) (Quiet.cell 0 g0 32 28 24 (csl sd [.slice A n c,.slice R NR cR,.slice S NS cS]).toArray _ _ rfl kR kR Tryz.underlying24 rfl _ (Fd hsd 0))<|sZ 4 rfl (.pointer (some ⟨g0,33,none⟩))<|sD 5 rfl (.slice R NR cR) (Quiet.cell 0 g0 33 28 25 (csl sd [.slice A n c,.slice R NR cR,.slice S NS cS]).toArray _ _ rfl kR kR Tryz.underlying25 rfl _ (Fd hsd 1))<|sD 6 rfl (Ar d W NW cW) (Quiet.load 1 g1 0 33 31 31 (AK d W NW cW).toArray _ _ rfl kR kR Tryz.underlying31 rfl kR _ (CG hd) (DQ hd))<|sD 7 rfl (.bool bV) (qG 18 #[.slice A n c,.slice R NR cR,Ar d W NW cW] (λw hw=>by rw [hbV]; exact Ff w A m n c hm hm9 hc hc2 (hs0.below hw.below) R NR cR a nk ck X Y I hX hY hNR hnk (hlr.below hw.below) (λi hi=>(hlk i hi).below hw.below) hN9 d hd W NW cW sa sn sc s hsc hNW hsn9 (hlw.below hw.below) (λi hi=>(hls i hi).below hw.below) (ht.below hw.below ht.lt))) ?_
 refine sZ 8 rfl (.pointer (some ⟨g0,32,none⟩))<|sD 9 rfl (.slice A n c) (Quiet.cell 0 g0 32 28 24 (csl sd [.slice A n c,.slice R NR cR,.slice S NS cS]).toArray _ _ rfl kR kR Tryz.underlying24 rfl _ (Fd hsd 0))<|sZ 10 rfl (.pointer (some ⟨g0,33,none⟩))<|sD 11 rfl (.slice R NR cR) (Quiet.cell 0 g0 33 28 25 (csl sd [.slice A n c,.slice R NR cR,.slice S NS cS]).toArray _ _ rfl kR kR Tryz.underlying25 rfl _ (Fd hsd 1))<|sD 12 rfl (Ar d W NW cW) (Quiet.load 1 g1 0 33 31 31 (AK d W NW cW).toArray _ _ rfl kR kR Tryz.underlying31 rfl kR _ (CG hd) (DQ hd))<|sD 13 rfl (.bool bV) (qG 19 #[.slice A n c,.slice R NR cR,Ar d W NW cW] (λw hw=>by rw [hbV]; exact FT w A m n c hm hm9 hc hc2 (hs0.below hw.below) R NR cR a nk ck X Y I hX hY hNR hnk (hlr.below hw.below) (λi hi=>(hlk i hi).below hw.below) d hd W NW cW sa sn sc s hsc hNW hsn9 (hlw.below hw.below) (λi hi=>(hls i hi).below hw.below) (htr.below hw.below htr.lt)))<|sD 14 rfl (.bool true) (Quiet.pure (λw=>J2 w _ _ _ _ bV rfl rfl rfl))<|sZ 15 rfl (.bool true) ?_
 refine sZ 16 rfl (.bool true)<|sZ 17 rfl (.bool b0)<|sZ 18 rfl (.bool b0)<|sD 19 rfl (.bool true) (Quiet.pure (λw=>J2 w _ _ _ _ b0 rfl rfl rfl))<|sZ 20 rfl (.bool true)<|sZ 21 rfl (.bool true)<|sZ 22 rfl (.slice W1 N0 c1)<|sZ 23 rfl (.slice W2 N0 c2) ?_
 refine sD 24 rfl (.bool true) (qG 20 #[.slice W1 N0 c1,.slice W2 N0 c2] (λw hw=>by have u1:=hU1 w _ hw (λb hb=>(List.mem_append.2 (.inr (List.mem_append.2 (.inr (List.mem_append.2 (.inl hb))))))); have u2:=hU2 w _ hw (λb hb=>(List.mem_append.2 (.inr (List.mem_append.2 (.inl hb))))); have q:=MS w W1 N0 c1 A0 x0 hx04 (by omega) u1 W2 N0 c2 A0 x0 hx04 (by omega) u2; rw [MQ] at q; exact q))<|sZ 25 rfl (.bool true)<|sZ 26 rfl (.bool true) ?_
 refine sI ?_
 refine Sy.ret ?_
 exact rV (.bool true) rfl
end Cu
end
end Go.Proofs.YtlooclodlpcglaaGreatDoor
