/-
  Texts of ours, put together: RingV, RingP, RingQ, RingSignsL, PLift7, PLift8, SurA, RingW, RingY, ScInv, ScRefPow, RingX, RingZ, RingAA, RingAB, RingAC, RingAD, RingAE, RingAF, RingAG, RingAH, SymG2, RingAI, RingAJ, RingAK.
-/
import Derived.Test.YtbjmjcpdonochaaGreatDoorBP7
set_option linter.unusedVariables false
set_option linter.unusedSimpArgs false
set_option maxRecDepth 100000
set_option maxHeartbeats 4000000
namespace Go.Proofs.YtbjmjcpdonochaaGreatDoor
section
namespace Cu
open Go.RowKit Sy
def sgx (d:List UInt8) (u:Value):List Value:=d.map bv++[u]
section
variable {d z:List UInt8} {u x:Value}
theorem GX (h:d.length=32):(sgx d u).length=33:=by simp [sgx,h]
theorem OY (h:d.length=32):(sgx d u).toArray[32]? = some u:=by
 rw [List.getElem?_toArray]
 unfold sgx
 rw [List.getElem?_append_right (by rw [List.length_map,h]; exact Nat.le_refl _),List.length_map,h]
 rfl
theorem MM (h:d.length=32):(sgx d u).toArray.setIfInBounds 32 x=(sgx d x).toArray:=by
 rw [List.setIfInBounds_toArray]
 unfold sgx
 rw [List.set_append_right _ _ (by rw [List.length_map,h]; exact Nat.le_refl _),List.length_map,h]
 rfl
theorem OX (h:d.length=32):32<(sgx d u).toArray.size:=by rw [List.size_toArray,GX h]; decide
theorem QR (hz:z.length=32) (hd:d.length=32):setAll (sgx z u).toArray 0 (d.map bv).toArray.toList=(sgx d u).toArray:=by
 have h:=Cd (d.map bv) 0 (sgx z u).toArray (by rw [List.size_toArray,GX hz,List.length_map,hd]; decide)
 rw [show (d.map bv).toArray.toList=d.map bv from rfl,h]
 refine congrArg List.toArray ?_
 simp only [List.take_zero,List.nil_append,List.length_map,hd]
 unfold sgx
 rw [List.drop_left' (by rw [List.length_map,hz])]
end
theorem TxsIs.own {w0:Base} {e:TypeId} {g:Nat} {t:Sh.Tx} {v:Value} (T':AB) (hv:t.val=v) (hok:∀ w L,St w0 w L→(∀ b∈T',b∈L)→t.ok w):TxsIs w0 e ⟨.slice (pA g) 1 1,[(g,e,#[v])]⟩ T' [t]:=by
 subst hv
 refine ⟨Slc.Is.mk' (cs:=[t.val]) (λx hx=>?_) (λx hx u hu=>?_) rfl U U (Nat.le_refl _) dZ,λw L hw hT x hx=>?_⟩
 ·rw [List.mem_singleton.1 hx]; rfl
 ·rw [List.mem_singleton.1 hx] at hu
  rw [List.mem_singleton.1 hu]; rfl
 ·rw [List.mem_singleton.1 hx]; exact hok w L hw hT
theorem XtR.li {l:List UInt8} {j:Nat} {xt:Sh.Tx} {xb:AB} (h:XtR l j xt xb):xt.l=l:=by
 obtain ⟨_,_,_,h0,_⟩:=h
 exact h0
theorem RowsAre.full {r:Nat→Slc} {e:TypeId} {sz k:Nat} {f:Nat→Nat→List Value} {n:Nat→Nat} {x:Slc} (h:RowsAre r e sz f (Bx n k 0)) (hx:x.Is e sz ((List.range (n k)).map (f k))):RowsAre (CS r k x) e sz f (Bx n (k+1) 0):=λi=>by
 rw [GB]
 by_cases hi:i=k
 ·subst hi
  rw [Ce,Dk]
  exact hx
 ·rw [DC hi]
  have q:=h i
  have e:Bx n k (n k) i=Bx n k 0 i:=by unfold Bx; simp [hi]
  rw [e]
  exact q
def K9 (d:List UInt8) (f:Nat→Nat→List Value) (nk:Nat→Nat) (NR:Nat) (v:Value) (M:AB):Prop:=∃ g cap sp r,v=AM d (pA g) NR cap∧NR≤cap∧M=(g,51,(AH (λj=>[(r j).v]) NR++sp).toArray)::Ai r NR∧RowsAre r 42 4 f (Bx nk NR 0)
def SgnR8 (br bf:Bool) (d:List UInt8) (f:Nat→Nat→List Value) (nk:Nat→Nat) (NR:Nat) (v:Value) (M:AB):Prop :=
 (br=false∧v=.tuple #[AM (List.replicate 32 0) none 0 0,.int .i64 80]∧M=[])∨(br=true∧bf=false∧v=.tuple #[AM (List.replicate 32 0) none 0 0,.int .i64 81]∧M=[])∨(br=true∧bf=true∧∃ u,v=.tuple #[u,.int .i64 0]∧K9 d f nk NR u M)
theorem KO {r:Nat→Slc} {k:Nat} {x:Slc}:(List.range k).map (λi=>[(CS r k x i).v])=(List.range k).map λi=>[(r i).v] :=
 List.map_congr_left λi hi=>by rw [DC (by have:=List.mem_range.1 hi; omega)]
theorem NJ (w:World) (sd:List UInt8) (hsd:sd.length=32) (A:Option Addr) (m:List UInt8) (n c:Nat) (hm:m.length=n) (hm9:n≤999000000) (hc:n≤c) (hc2:c≤9223372036854775807) (hs0:Sh.Src w A m) (R:Option Addr) (NR cR:Nat) (a:Nat→Option Addr) (nk ck:Nat→Nat) (X Y:Nat→Nat→Nat) (I:Nat→Nat→Bool) (hX:∀ i k,X i k<K4) (hY:∀ i k,Y i k<K4) (hNR:NR≤4611686018427387904) (hnk:∀ i,nk i≤4611686018427387904) (hlr:Lst w 1 R NR (λi=>[.slice (a i) (nk i) (ck i)])) (hlk:∀ i,i<NR→Lst w 9 (a i) (nk i) (λk=>pml (X i k) (Y i k) (I i k))) (S:Option Addr) (NS cS:Nat) (At:Nat→Int) (sx:Nat→Nat) (hsx:∀ i,sx i<K4) (hNS:NS≤4611686018427387904) (hls:Lst w 5 S NS (λi=>BV (At i) (sx i))) (htr:Sh.TabAt w 0):Calls Tryz.prog 70 #[.agg (sd.map bv).toArray,.slice A n c,.slice R NR cR,.slice S NS cS] w (GetsN w (SgnR8 (CQ NR nk X Y I) (Dw At sx nk X Y I NS NR) (sgD (rgM m NR nk X Y I) sd X Y I (λi=>(At i).toNat) nk NR) (sgF (rgM m NR nk X Y I) sd X Y I (λi=>(At i).toNat) sx (sgD (rgM m NR nk X Y I) sd X Y I (λi=>(At i).toNat) nk NR)) nk NR)):=by
 have hls0:=hls
 obtain ⟨gS,oS,hS⟩:=hls
 have hlr0:=hlr
 obtain ⟨gR,oR,hR⟩:=hlr
 refine Sy.enter (args:=[.agg (sd.map bv).toArray,.slice A n c,.slice R NR cR,.slice S NS cS]) Tryz.func70 U kL<|sC<|sM 23 (sd.map bv).toArray (λg0=>?_)
 refine sM 31 zS33.toArray (λg1=>?_)
 refine sP (.int .i64 0)<|sA<|sP (.slice R NR cR) ?_
 obtain ⟨b1,hb1⟩:=xE (CQ NR nk X Y I)
 refine sS (.bool b1) (qG 129 #[.slice R NR cR] (λw hw=>by rw [hb1]; exact PE w R NR cR a nk ck X Y I hX hY hNR hnk (hlr0.below hw.below) (λi hi=>(hlk i hi).below hw.below)))<|sP (.bool b1)<|sG<|Sy.seq<|sC<|sP (.bool b1) ?_
 cases b1
 ·refine sP (.bool true) ?_
  refine sG<|sT<|sC<|sP (AM (List.replicate 32 (0:UInt8)) none 0 0)<|sW 1 g1 31 zS33.toArray zS33.toArray (Writes.row 31 zS33 33 _ _ U kR kR kR (Ag List.length_replicate) (by rw [List.size_toArray,Ag List.length_replicate]) Bo)<|sP (.int .i64 80)<|sG<|Sy.ret<|Sy.then_ret ?_
  exact BD [] rfl (v:=AM (List.replicate 32 (0:UInt8)) none 0 0) (u:=.int .i64 80) (.inl (Res.cell (ty':=31) g1 1 zS33.toArray _ kR kR DV U (by rw [List.size_toArray,Ag List.length_replicate]; kernel_rfl) rfl)) (.inl (show _=_ by kernel_rfl)) (λ_ hw=>hw.none) (.inl ⟨hb1.symm,rfl,rfl⟩)
 ·obtain ⟨hN32,hn64,hn1,hN1⟩:=F3 hb1
  refine sP (.bool false)<|sG<|sU<|Sy.skip<|Sy.then_<|Sy.seq<|sC<|sP (.slice S NS cS)<|sP (iZ NS)<|sP (.slice R NR cR)<|sP (iZ NR) ?_
  obtain ⟨b2,hb2⟩:=xE (decide (NS≠NR))
  refine sS (.bool b2) (qne U U U hb2)<|sG ?_
  cases b2
  ·have lb2:=dN hb2
   obtain rfl:NR=NS:=om
   refine sU<|Sy.skip<|Sy.then_<|Sy.seq<|sC<|sP (.int .i64 0)<|sG<|Sy.block<|Sy.loopH NR (λk1=>∀ j,j<k1→F_ At sx nk X Y I j=true) (λk1=>[(1,.slice A n c),(2,.slice R NR cR),(3,.slice S NR cS),(4,pT g0 0),(8,pT g1 0),(11,iZ k1)]) (λk1=>[(g0,23,(sd.map bv).toArray),(g1,31,zS33.toArray)]) [true,true] (M:=[(g0,23,(sd.map bv).toArray),(g1,31,zS33.toArray)]) (λj hj=>absurd hj (Nat.not_lt_zero _)) ac6 kR (AR U (AR U U)) (λk1 hk1 hh=>?_)
   have hh1:=hh
   refine Sy.seq<|sC<|sP (iZ k1)<|sP (.slice S NR cS)<|sP (iZ NR) ?_
   obtain ⟨b3,hb3⟩:=xE (decide (k1<NR))
   refine sS (.bool b3) (qls U U U hb3)<|sG ?_
   cases b3
   ·have lb3:=dN hb3
    refine sU<|Sy.exit<|Sy.then_exit<|Sy.then_exit ?_
    obtain rfl:NR=k1:=om
    have hfit:Dw At sx nk X Y I NR NR=true:=Hv U hh1
    have hfp:=(F9 hfit.symm).2
    obtain ⟨at_,hat_⟩:∃ f:Nat→Nat,f=λi=>(At i).toNat:=⟨_,rfl⟩
    have hat:∀ i,i<NR→at_ i<nk i:=λi hi=>by rw [hat_]; exact (hfp i hi).2.1
    have hls1:Lst w 5 S NR (λi=>BV ((at_ i:Nat):Int) (sx i)):=E0 hls0 (λi hi=>by rw [hat_, ← (hfp i hi).1])
    obtain ⟨gQ,oQ,hQ⟩:=hls1
    refine Sy.in_exit<|sB<|sP (.slice A n c)<|sP (.slice R NR cR) ?_
    obtain ⟨bM,hbM⟩:=xE (rgM m NR nk X Y I)
    have hbl:bM.length=32:=by rw [hbM]; exact FO _ _ _ _ _ _
    refine Sy.callN kR 14 #[.slice A n c,.slice R NR cR] kF ((λvq Mq=>∃ (g:Nat) (sp:List Value) (cap:Nat),vq=.slice (pA g) 32 cap∧(32≤cap∧cap≤9223372036854775807)∧Mq=[(g,5,(bM.map bv++sp).toArray)])) (λw hw=>by rw [hbM]; exact Sk w A m n c hm hm9 hc hc2 (hs0.below hw.below) R NR cR a nk ck X Y I hX hY hNR hnk (hlr0.below hw.below) (λi hi=>(hlk i hi).below hw.below) hN32 hn64 (htr.below hw.below htr.lt)) (λvq Mq hR0=>?_)
    obtain ⟨qx,spx,cpx,rfl,hcx,rfl⟩:=hR0
    refine sP (.slice (pA qx) 32 cpx)<|sA<|sP (AM (List.replicate 32 (0:UInt8)) none 0 0)<|sM 31 zS33.toArray (λg2=>?_)
    refine sW 3 g2 31 zS33.toArray zS33.toArray (Writes.row 31 zS33 33 _ _ U kR kR kR (Ag List.length_replicate) (by rw [List.size_toArray,Ag List.length_replicate]) Bo)<|sA<|sP (.slice (pA qx) 32 cpx)<|Sy.make kR 24 #[.slice (pA qx) 32 cpx] (λg=>.slice (pA g) 1 1) kF (λg3=>?_)
    refine sP (.slice (pA g3) 1 1)<|sG<|Sy.seq<|sC<|sP (.int .i64 0)<|sG<|Sy.block<|Sy.loopT (Y:=(Nat→Slc)×Slc×Slc×AB×List Sh.Tx) NR (λk1 y1=>[(2,.slice R NR cR),(3,.slice S NR cS),(4,pT g0 0),(8,pT g1 0),(12,.slice (pA qx) 32 cpx),(13,pT g2 0),(14,y1.2.2.1.v),(15,iZ k1)]) (λk1 y1=>[(g0,23,(sd.map bv).toArray),(g1,31,zS33.toArray),(g2,31,(sgx (List.replicate 32 (0:UInt8)) y1.2.1.v).toArray)]++(Ai y1.1 NR++(y1.2.1.bl++(y1.2.2.1.bl++(y1.2.2.2.1++([])))))) (λk1 y1=>RowsAre y1.1 42 4 (fkF bM sd) (Bx nk k1 0)∧y1.2.1.Is 51 1 ((List.range k1).map λi=>[(y1.1 i).v])∧TxsIs (Base.of w) 24 y1.2.2.1 y1.2.2.2.1 y1.2.2.2.2∧Sh.cat y1.2.2.2.2=bM++D5 bM sd X Y I at_ nk k1∧y1.2.2.2.2.length=k1+1∧(qx,5,(bM.map bv++spx).toArray)∈y1.2.2.2.1∧∀ i,k1≤i→y1.1 i=nilS) (λ_=>nilS,nilS,⟨.slice (pA g3) 1 1,[(g3,24,#[.slice (pA qx) 32 cpx])]⟩,[(qx,5,(bM.map bv++spx).toArray)],[(⟨some ⟨qx,0,none⟩,bM,cpx⟩:Sh.Tx)]) ⟨(RowsAre.nil _ _ _).cnt (Ey nk),Slc.Is.nil _ _,TxsIs.own _ (MG hbl) (λv L hv hb=>JV (hv.blk _ _ _ (hb _ (List.mem_singleton.2 U))).2 hbl hcx),by simp [Sh.cat,D5],rfl,List.mem_singleton.2 U,λ_ _=>rfl⟩ ac8 (λw hw=>by have q:=hw.perm (JT (m:=[(g0,23,(sd.map bv).toArray),(g1,31,zS33.toArray),(g2,31,zS33.toArray),(g3,24,#[.slice (pA qx) 32 cpx]),(qx,5,(bM.map bv++spx).toArray)]) [0,1,3,4,2] kR (by rfl)); rw [En]; exact q) (λk1 y1 hk1 hh1=>?_)
    have hmT:=hh1.2.2.2.2.2.1
    refine Sy.seq<|sC<|sP (iZ k1)<|sP (.slice R NR cR)<|sP (iZ NR) ?_
    obtain ⟨b4,hb4⟩:=xE (decide (k1<NR))
    refine sS (.bool b4) (qls U U U hb4)<|sG ?_
    cases b4
    ·have lb4:=dN hb4
     refine sU<|Sy.exit<|Sy.then_exit<|Sy.then_exit ?_
     obtain rfl:NR=k1:=om
     obtain ⟨q1,O1,e1,T1,t1⟩:=y1
     dsimp only at hh1
     obtain ⟨hr1,hO1,hT0,hcat,htl,hmT1,_⟩:=hh1
     obtain ⟨gO,cO,spO,hOv,hOb,hO2,hcO,hO3⟩:=hO1.open om
     obtain ⟨ov,ob⟩:=O1
     obtain rfl:ov=_:=hOv
     obtain rfl:ob=_:=hOb
     replace hmT:=hmT1
     refine Sy.permX (M:=[(g0,23,(sd.map bv).toArray),(g1,31,zS33.toArray),(g2,31,(sgx (List.replicate 32 (0:UInt8)) (.slice (pA gO) NR cO)).toArray),(gO,51,(AH (λj=>[(q1 j).v]) NR++spO).toArray)]++(Ai q1 NR++(e1.bl++(T1++([]))))) (Sy.flat_perm (ls:=[[(g0,23,(sd.map bv).toArray),(g1,31,zS33.toArray),(g2,31,(sgx (List.replicate 32 (0:UInt8)) (.slice (pA gO) NR cO)).toArray)],Ai q1 NR,[(gO,51,(AH (λj=>[(q1 j).v]) NR++spO).toArray)],e1.bl,T1]) (ms:=[[(g0,23,(sd.map bv).toArray),(g1,31,zS33.toArray),(g2,31,(sgx (List.replicate 32 (0:UInt8)) (.slice (pA gO) NR cO)).toArray)],[(gO,51,(AH (λj=>[(q1 j).v]) NR++spO).toArray)],Ai q1 NR,e1.bl,T1]) [0,2,1,3,4] kR (by rfl) (by rfl) (by rfl))<|Sy.tidyX (G:=[(2,.slice R NR cR),(3,.slice S NR cS),(4,pT g0 0),(8,pT g1 0),(12,.slice (pA qx) 32 cpx),(13,pT g2 0),(14,e1.v)]) ac7<|Sy.in_exit<|sB<|sP (e1.v) ?_
     obtain ⟨d0,hd0⟩:=xE (sgD bM sd X Y I at_ nk NR)
     have hdl:d0.length=32:=by rw [hd0]; exact D6 _
     refine sS (.agg (d0.map bv).toArray) (qG 44 #[.string rgFirst,e1.v] (λw hw=>by obtain ⟨Q,dd,hv,hc9,_,htx⟩:=hT0.texts; rw [hv,hd0]; have hel:=E6 (bm:=bM) (sd:=sd) (X:=X) (Y:=Y) (I:=I) (at_:=at_) (nk:=nk) NR; have q:=Sh.taggedR_any w rgFirst Q t1 dd (htx hw (λb hb=>(List.mem_append.2 (.inr (List.mem_append.2 (.inr (List.mem_append.2 (.inl hb))))))) (λb hb=>(List.mem_append.2 (.inr (List.mem_append.2 (.inr (List.mem_append.2 (.inr (List.mem_append.2 (.inl hb)))))))))) (htr.below hw.below htr.lt) dZ (by rw [hcat,List.length_append]; omega) (by omega); rw [hcat] at q; exact q))<|sP (pT g2 0)<|sW 2 g2 31 (sgx (List.replicate 32 (0:UInt8)) (.slice (pA gO) NR cO)).toArray (sgx d0 (.slice (pA gO) NR cO)).toArray (Writes.store 0 23 (d0.map bv).toArray _ _ U kR kR (by rw [Cx d0 hdl]; kernel_rfl) (by rw [Cx d0 hdl,List.size_toArray,GX List.length_replicate]; decide) (Er _) (QR List.length_replicate hdl))<|Sy.setT<|sG<|Sy.seq<|sC<|sP (.int .i64 0)<|sG<|Sy.block<|Sy.loopT (Y:=Nat→Slc) NR (λk1 y1=>[(2,.slice R NR cR),(3,.slice S NR cS),(4,pT g0 0),(8,pT g1 0),(12,.slice (pA qx) 32 cpx),(13,pT g2 0),(20,iZ k1)]) (λk1 y1=>[(g0,23,(sd.map bv).toArray),(g1,31,zS33.toArray),(g2,31,(AO d0 (pA gO) NR cO).toArray),(gO,51,(AH (λj=>[(q1 j).v]) NR++spO).toArray)]++(Ai y1 NR++(e1.bl++(T1++([]))))) (λk1 y1=>RowsAre y1 42 4 (sgK bM sd X Y I at_ sx d0 k1) (Bx nk NR 0)∧∀ i,i<NR→(y1 i).v=(q1 i).v) q1 ⟨by rw [J4]; exact hr1,λ_ _=>rfl⟩ ac7 (λw hw=>hw) (λk1 y1 hk1 hh1=>?_)
     refine Sy.seq<|sC<|sP (iZ k1)<|sP (.slice R NR cR)<|sP (iZ NR) ?_
     obtain ⟨b5,hb5⟩:=xE (decide (k1<NR))
     refine sS (.bool b5) (qls U U U hb5)<|sG ?_
     cases b5
     ·have lb5:=dN hb5
      refine sU<|Sy.exit<|Sy.then_exit<|Sy.then_exit ?_
      obtain rfl:NR=k1:=om
      refine Sy.in_exit<|sB<|sS (AM d0 (pA gO) NR cO) (Quiet.load 2 g2 0 33 31 31 (AO d0 (pA gO) NR cO).toArray _ _ U kR kR DV U kR _ (DI hdl) (E5 hdl))<|sW 1 g1 31 zS33.toArray (AO d0 (pA gO) NR cO).toArray (Writes.row 31 (AO d0 (pA gO) NR cO) 33 _ _ U kR kR kR (Ag hdl) (by rw [List.size_toArray,Ag List.length_replicate]) Bo)<|Sy.setT<|sP (.int .i64 0)<|sG<|Sy.ret ?_
      have hcell:AH (λj=>[(y1 j).v]) NR=AH (λj=>[(q1 j).v]) NR:=Bj λj hj=>by rw [hh1.2 j hj]
      exact BD ((gO,51,(AH (λj=>[(q1 j).v]) NR++spO).toArray)::Ai y1 NR) rfl (v:=AM d0 (pA gO) NR cO) (u:=.int .i64 0) (.inl (Res.cell (ty':=31) g1 1 (AO d0 (pA gO) NR cO).toArray _ kR kR DV U (by rw [List.size_toArray,Ag hdl]; kernel_rfl) rfl)) (.inl (show _=_ by kernel_rfl)) (λw hw=>St.parts (ls:=[[(g0,23,(sd.map bv).toArray)],[(g1,31,(AO d0 (pA gO) NR cO).toArray)],[(g2,31,(AO d0 (pA gO) NR cO).toArray)],[(gO,51,(AH (λj=>[(q1 j).v]) NR++spO).toArray)],Ai y1 NR,e1.bl,T1]) (ms:=[[(gO,51,(AH (λj=>[(q1 j).v]) NR++spO).toArray)],Ai y1 NR]) [[(g0,23,(sd.map bv).toArray)],[(g1,31,(AO d0 (pA gO) NR cO).toArray)],[(g2,31,(AO d0 (pA gO) NR cO).toArray)],e1.bl,T1] [3,4,0,1,2,5,6] kR (by rfl) (by rfl) (by simp) hw) (.inr (.inr ⟨hb1.symm,hfit,_,rfl,gO,cO,spO,y1,by rw [hd0,hbM,hat_],hcO,by rw [hcell],by rw [hd0,hbM,hat_] at hh1; exact MR hh1.1⟩))
     ·have lb5:=dY hb5
      have hnk1:=hn64 k1 lb5
      have hnk0:=hn1 k1 lb5
      have hat1:=hat k1 lb5
      obtain ⟨gK,oK,hT⟩:=hlk k1 lb5
      obtain ⟨gk,ck2,sp,hkv,hkb,hk1s,hk2s,hk3s⟩:=(show (y1 k1).Is _ _ _ from hh1.1 k1).open (by rw [CH lb5]; omega)
      rw [CH lb5] at hkv hkb hk1s hk2s
      rw [Oe] at hkb
      obtain ⟨fR,hfR⟩:∃ f:Nat→List Value,f=λj=>fws (rgF bM sd k1 j):=⟨_,rfl⟩
      rw [← hfR] at hkb
      have hf4:∀ j,(fR j).length=4:=λj=>by rw [hfR]; rfl
      obtain ⟨ek,hek⟩:=xE (sgE bM sd X Y I at_ d0 k1)
      refine Sy.permC (Sy.out1 y1 lb5 hkb)<|sT<|Sy.skip<|Sy.then_<|Sy.seq<|Sy.block<|sC<|sP (.slice S NR cS)<|sP (iZ k1)<|sS (.pointer (some ⟨gQ,oQ+k1*5,none⟩)) (Quiet.pure (AJ 26 _ _ _ S gQ oQ NR cS k1 5 .i64 (hQ om).1 U U U Gu kF om))<|sP (.pointer (some ⟨gQ,oQ+k1*5+0,none⟩))<|sS (iZ ((at_ k1))) (Quiet.thereOne gQ (oQ+k1*5+0) 3 _ _ U kR (hQ om).2.1 _ (AU ((hQ om).2.2 k1 om) 0 U) uy3 U)<|sP (iZ ((at_ k1)))<|sH (λj=>false) ?_
      refine sZ 0 U (.slice (pA qx) 32 cpx)<|sZ 1 U (iZ k1)<|sZ 2 U (.slice R NR cR)<|sZ 3 U (iZ k1)<|sD 4 U (.pointer (some ⟨gR,oR+k1*1,none⟩)) (Quiet.pure (AJ 25 _ _ _ R gR oR NR cR k1 1 .i64 (hR om).1 U U U CP kF om))<|sD 5 U (.slice (a k1) (nk k1) (ck k1)) (Quiet.thereOne gR (oR+k1*1) 45 _ _ U kR (hR om).2.1 _ (AU ((hR om).2.2 k1 om) 0 U) B1 U)<|sZ 6 U (pT g2 0)<|sD 7 U (.agg (d0.map bv).toArray) (Quiet.load 2 g2 0 32 31 23 (AO d0 (pA gO) NR cO).toArray _ _ U kR kR DA U kR _ (G3 hdl) (JH hdl))<|sZ 8 U (pT g2 32)<|sD 9 U (.slice (pA gO) NR cO) (Quiet.cell 2 g2 32 31 29 (AO d0 (pA gO) NR cO).toArray _ _ U kR kR CO U _ (EK hdl))<|sZ 10 U (iZ k1)<|sD 11 U (.pointer (some ⟨gO,0+k1*1,none⟩)) (Quiet.pure (BI 29 _ _ _ gO 0 NR cO k1 1 .i64 U U U CO kF om))<|sD 12 U (.slice (pA gk) (nk k1) ck2) (Quiet.cell 3 gO (0+k1*1) 51 51 (AH (λj=>[(q1 j).v]) NR++spO).toArray _ _ U kR kR CG U _ ((GN om U).trans (congrArg some ((hh1.2 k1 om).symm.trans hkv))))<|sZ 13 U (iZ ((at_ k1)))<|sD 14 U (iZ ((at_ k1)+1)) (qad U U U)<|Sy.callND 15 U kR kR 17 #[.slice (pA qx) 32 cpx,iZ k1,.slice (a k1) (nk k1) (ck k1),.agg (d0.map bv).toArray,.slice (pA gk) (nk k1) ck2,iZ ((at_ k1)+1)] kF (EsR (rgF bM sd k1) bM k1 (X k1) (Y k1) (I k1) d0 (at_ k1+1)) (λw hw=>RM w (pA qx) bM cpx hbl hcx.1 hcx.2 (DX (hw.blk _ _ _ (List.mem_append.2 (.inr (List.mem_append.2 (.inr (List.mem_append.2 (.inr (List.mem_append.2 (.inl hmT))))))))).2) k1 om (a k1) (nk k1) (ck k1) (X k1) (Y k1) (I k1) (hX k1) (hY k1) ((hlk k1 om).below hw.below) d0 hdl (pA gk) (nk k1) ck2 (rgF bM sd k1) (λ_=>E9 _ _ _ _) (by rw [← hfR]; exact BN hf4 hw (List.mem_append.2 (.inl (List.mem_of_getElem? (i:=4) rfl)))) (at_ k1+1) om om om (htr.below hw.below htr.lt)) (λvq Mq hR0=>?_)
      obtain ⟨ye,xte,xe,rfl,rfl,hye,hxe⟩:=hR0
      refine Sy.permD Sy.end_front2 ?_
      obtain ⟨yev,yeb⟩:=ye
      obtain ⟨ge,ce,spe,hev,heb,he1,he2,he3⟩:=hye.open (Nat.succ_pos _)
      obtain ⟨fE,hfE⟩:∃ f:Nat→List Value,f=λj=>fws (eC (rgF bM sd k1) bM k1 (X k1) (Y k1) (I k1) d0 j):=⟨_,rfl⟩
      have hE4:∀ j,(fE j).length=4:=λj=>by rw [hfE]; rfl
      rw [← hfE] at heb
      obtain rfl:yev=_:=hev
      obtain rfl:yeb=_:=heb
      refine Sy.permD (M:=[(g0,23,(sd.map bv).toArray),(g1,31,zS33.toArray),(g2,31,(AO d0 (pA gO) NR cO).toArray),(gO,51,(AH (λj=>[(q1 j).v]) NR++spO).toArray),(gk,42,(AH fR (nk k1)++sp).toArray),(ge,42,(AH fE (at_ k1+1)++spe).toArray)]++(xe++(C_ y1 NR k1++(e1.bl++(T1++([])))))) (by exact List.Perm.refl _)<|sZ 16 U (.tuple #[.slice (pA ge) (at_ k1+1) ce,.slice xte.A (Bl (at_ k1+1)) xte.c])<|sZ 17 U (.slice (pA ge) (at_ k1+1) ce)<|sZ 18 U (.slice xte.A (Bl (at_ k1+1)) xte.c)<|sZ 19 U (.slice (pA ge) (at_ k1+1) ce)<|sZ 20 U (.slice xte.A (Bl (at_ k1+1)) xte.c)<|sE<|sB<|sP (pT g2 32)<|sS (.slice (pA gO) NR cO) (Quiet.cell 2 g2 32 31 29 (AO d0 (pA gO) NR cO).toArray _ _ U kR kR CO U _ (EK hdl))<|sP (iZ k1)<|sS (.pointer (some ⟨gO,0+k1*1,none⟩)) (Quiet.pure (BI 29 _ _ _ gO 0 NR cO k1 1 .i64 U U U CO kF om))<|sS (.slice (pA gk) (nk k1) ck2) (Quiet.cell 3 gO (0+k1*1) 51 51 (AH (λj=>[(q1 j).v]) NR++spO).toArray _ _ U kR kR CG U _ ((GN om U).trans (congrArg some ((hh1.2 k1 om).symm.trans hkv))))<|sP (.slice (pA gk) (nk k1) ck2)<|sG<|Sy.regionD (λj=>j == 18) kR<|sZ 0 U (.slice (pA gk) (nk k1) ck2)<|sZ 1 U (iZ ((at_ k1)))<|sD 2 U (.agg (sd.map bv).toArray) (Quiet.load 0 g0 0 32 23 23 (sd.map bv).toArray _ _ U kR kR DA U kR _ (BF sd hsd) (Bh sd hsd))<|sZ 3 U (.slice (pA qx) 32 cpx)<|sZ 4 U (iZ k1) ?_
      obtain ⟨kn,hkn⟩:=xE (rgN bM sd k1)
      refine sD 5 U (fv kn) (qG 130 #[.agg (sd.map bv).toArray,.slice (pA qx) 32 cpx,iZ k1] (λw hw=>by rw [hkn]; exact Hg w sd hsd (pA qx) bM cpx hbl hcx.1 hcx.2 (DX (hw.blk _ _ _ (List.mem_append.2 (.inr (List.mem_append.2 (.inr (List.mem_append.2 (.inr (List.mem_append.2 (.inr (List.mem_append.2 (.inl hmT))))))))))).2) k1 om (htr.below hw.below htr.lt)))<|sZ 6 U (.slice (pA ge) (at_ k1+1) ce)<|sZ 7 U (iZ ((at_ k1)))<|sD 8 U (.pointer (some ⟨ge,0+(at_ k1)*4,none⟩)) (Quiet.pure (BI 51 _ _ _ ge 0 (at_ k1+1) ce (at_ k1) 4 .i64 U U U CG kF om))<|sD 9 U (fv ek) (Quiet.load 5 ge (0+(at_ k1)*4) 4 42 42 (AH fE (at_ k1+1)++spe).toArray _ _ U kR kR Ah U kR _ ((EF (k:=(at_ k1)) hE4 om U).trans (by rw [hfE,hek]; rfl)) (Dv (k:=(at_ k1)) hE4 om U))<|sZ 10 U (.slice S NR cS)<|sZ 11 U (iZ k1)<|sD 12 U (.pointer (some ⟨gQ,oQ+k1*5,none⟩)) (Quiet.pure (AJ 26 _ _ _ S gQ oQ NR cS k1 5 .i64 (hQ om).1 U U U Gu kF om))<|sZ 13 U (.pointer (some ⟨gQ,oQ+k1*5+1,none⟩))<|sD 14 U (fv (sx k1)) (Quiet.there gQ (oQ+k1*5+1) 4 42 (fws (sx k1)) _ _ U kR (hQ om).2.1 (F4 ((hQ om).2.2 k1 om) 1 U) Ah U kR U _ U) ?_
      obtain ⟨km,hkm⟩:=xE (Sc.mulP ek (sx k1))
      refine sD 15 U (fv km) (qF 131 #[fv ek,fv (sx k1)] (λw=>by rw [hkm]; exact Q0 w _ _ (by rw [hek]; exact D_ _ _ _ _) (hsx _))) ?_
      obtain ⟨ks,hks⟩:=xE (Sc.subP kn km)
      refine sD 16 U (fv ks) (qF 67 #[fv kn,fv km] (λw=>by rw [hks]; exact QM w _ _ (by rw [hkn]; exact JN _ _ _) (by rw [hkm]; exact Sc.mod_lt _)))<|sD 17 U (.pointer (some ⟨gk,0+(at_ k1)*4,none⟩)) (Quiet.pure (BI 51 _ _ _ gk 0 (nk k1) ck2 (at_ k1) 4 .i64 U U U CG kF om))<|sX 18 U 4 gk 42 (AH fR (nk k1)++sp).toArray (AH (λj=>if j=(at_ k1) then fws ks else fR j) (nk k1)++sp).toArray (Writes.store (0+(at_ k1)*4) 42 (fcs ks) _ _ U kR kR kR (Dv (k:=(at_ k1)) hf4 om U) kR (Io (k:=(at_ k1)) (v:=fws ks) hf4 U om U))<|Sy.setTD<|sE<|Sy.in_<|Sy.then_<|Sy.region<|sP (iZ k1)<|sS (iZ (k1+1)) (qad U U U)<|sP (iZ (k1+1))<|Sy.nil ?_
      exact Sy.againT (CS y1 k1 ⟨.slice (pA gk) (nk k1) ck2,[(gk,42,(AH (λj=>if j=(at_ k1) then fws ks else fR j) (nk k1)++sp).toArray)]⟩) om (⟨hh1.1.upd (by rw [CH om, ← MQ, ← hkn, ← hek, ← hkm, ← hks,hfR]; exact Slc.Is.close (λk=>by split <;> rfl) (λk=>by split <;> exact C0 _) hk1s hk2s hk3s) (λi hi=>Od hi),λi hi=>by by_cases e:i=k1; { rw [e,Ce, ← hh1.2 k1 om,hkv] }; { rw [DC e]; exact hh1.2 i hi }⟩) ac7 (λw hw=>St.row_back (i:=k1) (v:=.slice (pA gk) (nk k1) ck2) (M:=[(g0,23,(sd.map bv).toArray),(g1,31,zS33.toArray),(g2,31,(AO d0 (pA gO) NR cO).toArray),(gO,51,(AH (λj=>[(q1 j).v]) NR++spO).toArray)]) (b:=(gk,42,(AH (λj=>if j=(at_ k1) then fws ks else fR j) (nk k1)++sp).toArray)) (n:=NR) (r:=y1) (R:=e1.bl++(T1++[])) om (St.parts (ls:=[[(g0,23,(sd.map bv).toArray)],[(g1,31,zS33.toArray)],[(g2,31,(AO d0 (pA gO) NR cO).toArray)],[(gO,51,(AH (λj=>[(q1 j).v]) NR++spO).toArray)],[(gk,42,(AH (λj=>if j=(at_ k1) then fws ks else fR j) (nk k1)++sp).toArray)],[(ge,42,(AH fE (at_ k1+1)++spe).toArray)],xe,C_ y1 NR k1,e1.bl,T1]) (ms:=[[(g0,23,(sd.map bv).toArray)],[(g1,31,zS33.toArray)],[(g2,31,(AO d0 (pA gO) NR cO).toArray)],[(gO,51,(AH (λj=>[(q1 j).v]) NR++spO).toArray)],[(gk,42,(AH (λj=>if j=(at_ k1) then fws ks else fR j) (nk k1)++sp).toArray)],C_ y1 NR k1,e1.bl,T1]) [[(ge,42,(AH fE (at_ k1+1)++spe).toArray)],xe] [0,1,2,3,4,7,8,9,5,6] kR (by rfl) (by rfl) (by rfl) hw))
    ·have lb4:=dY hb4
     have hnk1:=hn64 k1 lb4
     have hnk0:=hn1 k1 lb4
     have hat1:=hat k1 lb4
     obtain ⟨gK,oK,hT⟩:=hlk k1 lb4
     refine sT<|Sy.skip<|Sy.then_<|Sy.seq<|Sy.block<|sC<|sP (.slice none 0 0)<|sG<|Sy.seq<|sC<|sP (.int .i64 0)<|sG<|Sy.block<|Sy.loopT (Y:=Slc) (nk k1) (λk2 y2=>[(2,.slice R NR cR),(3,.slice S NR cS),(4,pT g0 0),(8,pT g1 0),(12,.slice (pA qx) 32 cpx),(13,pT g2 0),(14,y1.2.2.1.v),(15,iZ k1),(16,y2.v),(17,iZ k2)]) (λk2 y2=>[(g0,23,(sd.map bv).toArray),(g1,31,zS33.toArray),(g2,31,(sgx (List.replicate 32 (0:UInt8)) y1.2.1.v).toArray)]++(y2.bl++(Ai y1.1 NR++(y1.2.1.bl++(y1.2.2.1.bl++(y1.2.2.2.1++([]))))))) (λk2 y2=>y2.Is 42 4 ((List.range k2).map (fkF bM sd k1))) nilS (Slc.Is.nil _ _) P7 (λw hw=>hw) (λk2 y2 hk2 hh2=>?_)
     refine Sy.seq<|sC<|sP (iZ k2)<|sP (.slice R NR cR)<|sP (iZ k1)<|sS (.pointer (some ⟨gR,oR+k1*1,none⟩)) (Quiet.pure (AJ 25 _ _ _ R gR oR NR cR k1 1 .i64 (hR om).1 U U U CP kF om))<|sS (.slice (a k1) (nk k1) (ck k1)) (Quiet.thereOne gR (oR+k1*1) 45 _ _ U kR (hR om).2.1 _ (AU ((hR om).2.2 k1 om) 0 U) B1 U)<|sP (iZ ((nk k1))) ?_
     obtain ⟨b6,hb6⟩:=xE (decide (k2<(nk k1)))
     refine sS (.bool b6) (qls U U U hb6)<|sG ?_
     cases b6
     ·have lb6:=dN hb6
      refine sU<|Sy.exit<|Sy.then_exit<|Sy.then_exit ?_
      obtain rfl:k2=nk k1:=om
      have hk1c:=hh2
      obtain ⟨gk,ck2,sp,hkv,hkb,hk1s,hk2s,hk3s⟩:=hh2.open om
      obtain ⟨fR,hfR⟩:∃ f:Nat→List Value,f=fkF bM sd k1:=⟨_,rfl⟩
      rw [← hfR] at hkb
      have hf4:∀ j,(fR j).length=4:=λj=>by rw [hfR]; rfl
      obtain ⟨yv,yb⟩:=y2
      obtain rfl:yv=_:=hkv
      obtain rfl:yb=_:=hkb
      refine Sy.permX (M:=[(g0,23,(sd.map bv).toArray),(g1,31,zS33.toArray),(g2,31,(sgx (List.replicate 32 (0:UInt8)) y1.2.1.v).toArray),(gk,42,(AH fR (nk k1)++sp).toArray)]++(Ai y1.1 NR++(y1.2.1.bl++(y1.2.2.1.bl++(y1.2.2.2.1++([])))))) (by exact List.Perm.refl _)<|Sy.tidyX (G:=[(2,.slice R NR cR),(3,.slice S NR cS),(4,pT g0 0),(8,pT g1 0),(12,.slice (pA qx) 32 cpx),(13,pT g2 0),(14,y1.2.2.1.v),(15,iZ k1),(16,.slice (pA gk) (nk k1) ck2)]) ac9<|Sy.in_exit<|sB<|sS (.agg (sd.map bv).toArray) (Quiet.load 0 g0 0 32 23 23 (sd.map bv).toArray _ _ U kR kR DA U kR _ (BF sd hsd) (Bh sd hsd))<|sP (.slice (pA qx) 32 cpx)<|sP (iZ k1) ?_
      have lkn:rgN bM sd k1<K4:=JN _ _ _
      refine sS (fv (rgN bM sd k1)) (qG 130 #[.agg (sd.map bv).toArray,.slice (pA qx) 32 cpx,iZ k1] (λw hw=>Hg w sd hsd (pA qx) bM cpx hbl hcx.1 hcx.2 (DX (hw.blk _ _ _ (List.mem_append.2 (.inr (List.mem_append.2 (.inr (List.mem_append.2 (.inr (List.mem_append.2 (.inr (List.mem_append.2 (.inl hmT))))))))))).2) k1 om (htr.below hw.below htr.lt)))<|sS (pv (pX bP) (pY bP) (pI bP)) (qF 16 #[] (λw=>by rw [← BU]; exact Gk w)) ?_
      have lsx:=hsx k1
      obtain ⟨R1,hR1⟩:∃ P:Pt,P=Ec.nm Ad ((rgN bM sd k1)%Sc.pM) bP:=⟨_,rfl⟩
      have oR1:Ec.On R1:=by rw [hR1]; exact bP_on.nm fld _
      refine sS (pv (pX R1) (pY R1) (pI R1)) (qF 15 #[fv (rgN bM sd k1),pv (pX bP) (pY bP) (pI bP)] (Gd lP lP lP (Be bP_on) hR1.symm))<|Sy.callN kR 42 #[pv (pX R1) (pY R1) (pI R1)] kF ((GE R1)) (λw hw=>by have q:=C8 w (pX R1) (pY R1) (pI R1) (EN _) (EM _); rw [(Be oR1)] at q; exact q) (λvq Mq hR0=>?_)
      rw [hR1] at hR0
      obtain ⟨q8,sp8,cp8,rfl,hc8,rfl⟩:=hR0
      refine Sy.movT<|sP (.slice (pA q8) 33 cp8)<|sG<|Sy.seq<|sC<|sP (.slice S NR cS)<|sP (iZ k1)<|sS (.pointer (some ⟨gQ,oQ+k1*5,none⟩)) (Quiet.pure (AJ 26 _ _ _ S gQ oQ NR cS k1 5 .i64 (hQ om).1 U U U Gu kF om))<|sP (.pointer (some ⟨gQ,oQ+k1*5+0,none⟩))<|sS (iZ ((at_ k1))) (Quiet.thereOne gQ (oQ+k1*5+0) 3 _ _ U kR (hQ om).2.1 _ (AU ((hQ om).2.2 k1 om) 0 U) uy3 U)<|sS (iZ ((at_ k1)+1)) (qad U U U)<|sP (iZ ((at_ k1)+1))<|sG<|Sy.block<|Sy.loopT (Y:=Sh.Tx×AB) (nk k1 - (at_ k1+1)) (λk2 y2=>[(2,.slice R NR cR),(3,.slice S NR cS),(4,pT g0 0),(8,pT g1 0),(12,.slice (pA qx) 32 cpx),(13,pT g2 0),(14,y1.2.2.1.v),(15,iZ k1),(16,.slice (pA gk) (nk k1) ck2),(18,.slice y2.1.A (Bl 1) y2.1.c),(19,iZ ((at_ k1+1+k2)))]) (λk2 y2=>[(g0,23,(sd.map bv).toArray),(g1,31,zS33.toArray),(g2,31,(sgx (List.replicate 32 (0:UInt8)) y1.2.1.v).toArray),(gk,42,(AH fR (nk k1)++sp).toArray)]++(y2.2++(Ai y1.1 NR++(y1.2.1.bl++(y1.2.2.1.bl++(y1.2.2.2.1++([]))))))) (λk2 y2=>XtR (alX (rgF bM sd k1) bM k1 (at_ k1+1) (X k1) (Y k1) (I k1) (sgX bM sd k1) k2) 1 y2.1 y2.2) ((⟨some ⟨q8,0,none⟩,sgX bM sd k1,cp8⟩:Sh.Tx),[(q8,5,((sgX bM sd k1).map bv++sp8).toArray)]) ⟨q8,sp8,rfl,rfl,rfl,GY _,hc8.1,hc8.2⟩ P6 (λw hw=>St.parts (ls:=[[(g0,23,(sd.map bv).toArray)],[(g1,31,zS33.toArray)],[(g2,31,(sgx (List.replicate 32 (0:UInt8)) y1.2.1.v).toArray)],[(gk,42,(AH fR (nk k1)++sp).toArray)],[(q8,5,((sgX bM sd k1).map bv++sp8).toArray)],Ai y1.1 NR,y1.2.1.bl,y1.2.2.1.bl,y1.2.2.2.1]) (ms:=[[(g0,23,(sd.map bv).toArray)],[(g1,31,zS33.toArray)],[(g2,31,(sgx (List.replicate 32 (0:UInt8)) y1.2.1.v).toArray)],[(gk,42,(AH fR (nk k1)++sp).toArray)],[(q8,5,((sgX bM sd k1).map bv++sp8).toArray)],Ai y1.1 NR,y1.2.1.bl,y1.2.2.1.bl,y1.2.2.2.1]) [] [0,1,2,3,4,5,6,7,8] kR (by rfl) (by rfl) (by rfl) hw) (λk2 y2 hk2 hh2=>?_)
      refine Sy.seq<|sC<|sP (iZ ((at_ k1+1+k2)))<|sP (.slice R NR cR)<|sP (iZ k1)<|sS (.pointer (some ⟨gR,oR+k1*1,none⟩)) (Quiet.pure (AJ 25 _ _ _ R gR oR NR cR k1 1 .i64 (hR om).1 U U U CP kF om))<|sS (.slice (a k1) (nk k1) (ck k1)) (Quiet.thereOne gR (oR+k1*1) 45 _ _ U kR (hR om).2.1 _ (AU ((hR om).2.2 k1 om) 0 U) B1 U)<|sP (iZ ((nk k1))) ?_
      obtain ⟨b7,hb7⟩:=xE (decide ((at_ k1+1+k2)<(nk k1)))
      refine sS (.bool b7) (qls U U U hb7)<|sG ?_
      cases b7
      ·have lb7:=dN hb7
       refine sU<|Sy.exit<|Sy.then_exit<|Sy.then_exit ?_
       obtain rfl:k2=nk k1 - (at_ k1+1):=om
       refine Sy.in_exit<|sB<|sP (y1.2.2.1.v)<|sP (.slice y2.1.A (Bl 1) y2.1.c)<|Sy.make kR 24 #[.slice y2.1.A (Bl 1) y2.1.c] (λg=>.slice (pA g) 1 1) kF (λg4=>?_)
       refine Sy.movT<|Sy.permS (M:=[(g0,23,(sd.map bv).toArray),(g1,31,zS33.toArray),(g2,31,(sgx (List.replicate 32 (0:UInt8)) y1.2.1.v).toArray),(gk,42,(AH fR (nk k1)++sp).toArray),(g4,24,#[.slice y2.1.A (Bl 1) y2.1.c])]++(y1.2.2.1.bl++(y2.2++(Ai y1.1 NR++(y1.2.1.bl++(y1.2.2.2.1++([]))))))) (Sy.flat_perm (ls:=[[(g0,23,(sd.map bv).toArray),(g1,31,zS33.toArray),(g2,31,(sgx (List.replicate 32 (0:UInt8)) y1.2.1.v).toArray),(gk,42,(AH fR (nk k1)++sp).toArray),(g4,24,#[.slice y2.1.A (Bl 1) y2.1.c])],y2.2,Ai y1.1 NR,y1.2.1.bl,y1.2.2.1.bl,y1.2.2.2.1]) (ms:=[[(g0,23,(sd.map bv).toArray),(g1,31,zS33.toArray),(g2,31,(sgx (List.replicate 32 (0:UInt8)) y1.2.1.v).toArray),(gk,42,(AH fR (nk k1)++sp).toArray),(g4,24,#[.slice y2.1.A (Bl 1) y2.1.c])],y1.2.2.1.bl,y2.2,Ai y1.1 NR,y1.2.1.bl,y1.2.2.2.1]) [0,4,1,2,3,5] kR (by rfl) (by rfl) (by rfl))<|Sy.appendR kR 88 24 _ _ 1 24 Ft ED U U U U dZ _ _ U hh1.2.2.1.row kR [.slice y2.1.A (Bl 1) y2.1.c] rfl (E_ _ _ _) 4 g4 24 kR kR (by rw [List.length_map,hh1.2.2.2.2.1]; omega) (by rw [List.length_map,hh1.2.2.2.2.1]; simp only [maxLen]; omega) (λr1 hr1=>?_)
       refine sP (r1.v)<|sG<|Sy.region<|sP (pT g2 32)<|sS (y1.2.1.v) (Quiet.cell 2 g2 32 31 29 (sgx (List.replicate 32 (0:UInt8)) y1.2.1.v).toArray _ _ U kR kR CO U _ (OY List.length_replicate))<|sP (.slice (pA gk) (nk k1) ck2)<|Sy.make kR 51 #[.slice (pA gk) (nk k1) ck2] (λg=>.slice (pA g) 1 1) kF (λg5=>?_)
       refine Sy.movT<|Sy.permS (M:=[(g0,23,(sd.map bv).toArray),(g1,31,zS33.toArray),(g2,31,(sgx (List.replicate 32 (0:UInt8)) y1.2.1.v).toArray),(gk,42,(AH fR (nk k1)++sp).toArray),(g4,24,#[.slice y2.1.A (Bl 1) y2.1.c]),(g5,51,#[.slice (pA gk) (nk k1) ck2])]++(y1.2.1.bl++(r1.bl++(y2.2++(Ai y1.1 NR++(y1.2.2.2.1++([]))))))) (Sy.flat_perm (ls:=[[(g0,23,(sd.map bv).toArray),(g1,31,zS33.toArray),(g2,31,(sgx (List.replicate 32 (0:UInt8)) y1.2.1.v).toArray),(gk,42,(AH fR (nk k1)++sp).toArray),(g4,24,#[.slice y2.1.A (Bl 1) y2.1.c]),(g5,51,#[.slice (pA gk) (nk k1) ck2])],r1.bl,y2.2,Ai y1.1 NR,y1.2.1.bl,y1.2.2.2.1]) (ms:=[[(g0,23,(sd.map bv).toArray),(g1,31,zS33.toArray),(g2,31,(sgx (List.replicate 32 (0:UInt8)) y1.2.1.v).toArray),(gk,42,(AH fR (nk k1)++sp).toArray),(g4,24,#[.slice y2.1.A (Bl 1) y2.1.c]),(g5,51,#[.slice (pA gk) (nk k1) ck2])],y1.2.1.bl,r1.bl,y2.2,Ai y1.1 NR,y1.2.2.2.1]) [0,4,1,2,3,5] kR (by rfl) (by rfl) (by rfl))<|Sy.appendR kR 29 51 _ _ 1 24 CO Fd U U U U dZ _ _ U hh1.2.1 kR [.slice (pA gk) (nk k1) ck2] rfl (E_ _ _ _) 5 g5 51 kR kR (by rw [List.length_map,List.length_range]; omega) (by rw [List.length_map,List.length_range]; simp only [maxLen]; omega) (λr2 hr2=>?_)
       refine sP (pT g2 32)<|sW 2 g2 31 (sgx (List.replicate 32 (0:UInt8)) y1.2.1.v).toArray (sgx (List.replicate 32 (0:UInt8)) r2.v).toArray (Writes.one 32 29 (r2.v) _ _ U kR kR kR hr2.cells.1 hr2.cells.2 (OX List.length_replicate) (MM List.length_replicate))<|Sy.setT<|Sy.nil<|Sy.in_<|Sy.then_<|Sy.region<|sP (iZ k1)<|sS (iZ (k1+1)) (qad U U U)<|sP (iZ (k1+1))<|Sy.nil ?_
       exact Sy.againT (((CS y1.1 k1 ⟨.slice (pA gk) (nk k1) ck2,[(gk,42,(AH fR (nk k1)++sp).toArray)]⟩),r2,r1,y1.2.2.2.1++y2.2,y1.2.2.2.2++[y2.1])) om (⟨RowsAre.full hh1.1 hk1c,by rw [List.range_succ,List.map_append,KO]; show Slc.Is _ _ _ (_++[[(CS y1.1 k1 _ k1).v]]); rw [Ce]; exact hr2,hh1.2.2.1.add y2.1 y2.2 hr1 hh2.val hh2.ok,by rw [Fh,hh1.2.2.2.1,List.append_assoc,hh2.li]; rfl,by rw [List.length_append,hh1.2.2.2.2.1]; rfl,List.mem_append.2 (.inl hmT),λi hi=>by show CS _ _ _ i=nilS; rw [DC om]; exact hh1.2.2.2.2.2.2 i om⟩) ac8 (λw hw=>by have q:=St.row_in (i:=k1) (v:=.slice (pA gk) (nk k1) ck2) (M:=[(g0,23,(sd.map bv).toArray),(g1,31,zS33.toArray),(g2,31,(sgx (List.replicate 32 (0:UInt8)) r2.v).toArray)]) (b:=(gk,42,(AH fR (nk k1)++sp).toArray)) (n:=NR) (r:=y1.1) (R:=r2.bl++(r1.bl++(y1.2.2.2.1++(y2.2++[])))) om (hh1.2.2.2.2.2.2 k1 (Nat.le_refl _)) (St.parts (ls:=[[(g0,23,(sd.map bv).toArray)],[(g1,31,zS33.toArray)],[(g2,31,(sgx (List.replicate 32 (0:UInt8)) r2.v).toArray)],[(gk,42,(AH fR (nk k1)++sp).toArray)],[(g4,24,#[.slice y2.1.A (Bl 1) y2.1.c])],[(g5,51,#[.slice (pA gk) (nk k1) ck2])],r2.bl,r1.bl,y2.2,Ai y1.1 NR,y1.2.2.2.1]) (ms:=[[(g0,23,(sd.map bv).toArray)],[(g1,31,zS33.toArray)],[(g2,31,(sgx (List.replicate 32 (0:UInt8)) r2.v).toArray)],[(gk,42,(AH fR (nk k1)++sp).toArray)],Ai y1.1 NR,r2.bl,r1.bl,y1.2.2.2.1,y2.2]) [[(g4,24,#[.slice y2.1.A (Bl 1) y2.1.c])],[(g5,51,#[.slice (pA gk) (nk k1) ck2])]] [0,1,2,3,9,6,7,10,8,4,5] kR (by rfl) (by rfl) (by rfl) hw); rw [List.append_assoc]; exact q)
      ·have lb7:=dY hb7
       refine sT<|Sy.skip<|Sy.then_<|Sy.seq<|Sy.block<|Sy.regionD (λj=>false) kR<|sZ 0 U (.slice (pA gk) (nk k1) ck2)<|sZ 1 U (iZ ((at_ k1+1+k2)))<|sD 2 U (.pointer (some ⟨gk,0+(at_ k1+1+k2)*4,none⟩)) (Quiet.pure (BI 51 _ _ _ gk 0 (nk k1) ck2 (at_ k1+1+k2) 4 .i64 U U U CG kF om))<|sD 3 U (fv (rgF bM sd k1 (at_ k1+1+k2))) (Quiet.load 3 gk (0+(at_ k1+1+k2)*4) 4 42 42 (AH fR (nk k1)++sp).toArray _ _ U kR kR Ah U kR _ ((EF (k:=(at_ k1+1+k2)) hf4 om U).trans (by rw [hfR]; rfl)) (Dv (k:=(at_ k1+1+k2)) hf4 om U))<|sZ 4 U (.slice (pA qx) 32 cpx)<|sZ 5 U (.slice y2.1.A (Bl 1) y2.1.c)<|sZ 6 U (iZ k1)<|sZ 7 U (iZ ((at_ k1+1+k2)))<|sD 8 U (fv (rgC bM (alX (rgF bM sd k1) bM k1 (at_ k1+1) (X k1) (Y k1) (I k1) (sgX bM sd k1) k2) k1 (at_ k1+1+k2))) (qG 57 #[.slice (pA qx) 32 cpx,.slice y2.1.A (Bl 1) y2.1.c,iZ k1,iZ ((at_ k1+1+k2))] (λw hw=>IZ w (pA qx) bM cpx hbl hcx.1 hcx.2 (DX (hw.blk _ _ _ (List.mem_append.2 (.inr (List.mem_append.2 (.inr (List.mem_append.2 (.inr (List.mem_append.2 (.inr (List.mem_append.2 (.inr (List.mem_append.2 (.inl hmT))))))))))))).2) y2.1.A _ 33 y2.1.c hh2.len.1 dZ hh2.len.2.1 hh2.len.2.2 (hh2.src hw (λb hb=>List.mem_append.2 (.inr (List.mem_append.2 (.inl hb))))) k1 (at_ k1+1+k2) om om (htr.below hw.below htr.lt)))<|sZ 9 U (.slice R NR cR)<|sZ 10 U (iZ k1)<|sD 11 U (.pointer (some ⟨gR,oR+k1*1,none⟩)) (Quiet.pure (AJ 25 _ _ _ R gR oR NR cR k1 1 .i64 (hR om).1 U U U CP kF om))<|sD 12 U (.slice (a k1) (nk k1) (ck k1)) (Quiet.thereOne gR (oR+k1*1) 45 _ _ U kR (hR om).2.1 _ (AU ((hR om).2.2 k1 om) 0 U) B1 U)<|sZ 13 U (iZ ((at_ k1+1+k2)))<|sD 14 U (.pointer (some ⟨gK,oK+(at_ k1+1+k2)*9,none⟩)) (Quiet.pure (AJ 45 _ _ _ (a k1) gK oK (nk k1) (ck k1) (at_ k1+1+k2) 9 .i64 (hT om).1 U U U B1 kF om))<|sD 15 U (pv (X k1 (at_ k1+1+k2)) (Y k1 (at_ k1+1+k2)) (I k1 (at_ k1+1+k2))) (Quiet.there gK (oK+(at_ k1+1+k2)*9) 9 48 (pml (X k1 (at_ k1+1+k2)) (Y k1 (at_ k1+1+k2)) (I k1 (at_ k1+1+k2))) _ _ U kR (hT om).2.1 ((hT om).2.2 (at_ k1+1+k2) om) Ac U kR U _ U)<|Sy.callND 16 U kR kR 58 #[fv (rgF bM sd k1 (at_ k1+1+k2)),fv (rgC bM (alX (rgF bM sd k1) bM k1 (at_ k1+1) (X k1) (Y k1) (I k1) (sgX bM sd k1) k2) k1 (at_ k1+1+k2)),pv (X k1 (at_ k1+1+k2)) (Y k1 (at_ k1+1+k2)) (I k1 (at_ k1+1+k2))] kF ((GE (rPt (rgF bM sd k1 (at_ k1+1+k2)) (rgC bM (alX (rgF bM sd k1) bM k1 (at_ k1+1) (X k1) (Y k1) (I k1) (sgX bM sd k1) k2) k1 (at_ k1+1+k2)) (X k1 (at_ k1+1+k2)) (Y k1 (at_ k1+1+k2)) (I k1 (at_ k1+1+k2))))) (λw hw=>Il w _ _ _ _ _ (E9 _ _ _ _) (D_ _ _ _ _) (hX _ _) (hY _ _)) (λvq Mq hR0=>?_)
       obtain ⟨q8x,sp8x,cp8x,rfl,hc8x,rfl⟩:=hR0
       refine Sy.movTD<|sZ 17 U (.slice (pA q8x) 33 cp8x)<|sE<|Sy.in_<|Sy.then_<|Sy.region<|sP (iZ ((at_ k1+1+k2)))<|sS (iZ ((at_ k1+1+k2)+1)) (qad U U U)<|sP (iZ ((at_ k1+1+k2)+1))<|Sy.nil ?_
       exact Sy.againT (((⟨some ⟨q8x,0,none⟩,(Av (rPt (rgF bM sd k1 (at_ k1+1+k2)) (rgC bM (alX (rgF bM sd k1) bM k1 (at_ k1+1) (X k1) (Y k1) (I k1) (sgX bM sd k1) k2) k1 (at_ k1+1+k2)) (X k1 (at_ k1+1+k2)) (Y k1 (at_ k1+1+k2)) (I k1 (at_ k1+1+k2)))),cp8x⟩:Sh.Tx),[(q8x,5,((Av (rPt (rgF bM sd k1 (at_ k1+1+k2)) (rgC bM (alX (rgF bM sd k1) bM k1 (at_ k1+1) (X k1) (Y k1) (I k1) (sgX bM sd k1) k2) k1 (at_ k1+1+k2)) (X k1 (at_ k1+1+k2)) (Y k1 (at_ k1+1+k2)) (I k1 (at_ k1+1+k2)))).map bv++sp8x).toArray)])) om (⟨q8x,sp8x,rfl,rfl,rfl,Ao _,hc8x.1,hc8x.2⟩) P6 (λw hw=>St.parts (ls:=[[(g0,23,(sd.map bv).toArray)],[(g1,31,zS33.toArray)],[(g2,31,(sgx (List.replicate 32 (0:UInt8)) y1.2.1.v).toArray)],[(gk,42,(AH fR (nk k1)++sp).toArray)],[(q8x,5,((Av (rPt (rgF bM sd k1 (at_ k1+1+k2)) (rgC bM (alX (rgF bM sd k1) bM k1 (at_ k1+1) (X k1) (Y k1) (I k1) (sgX bM sd k1) k2) k1 (at_ k1+1+k2)) (X k1 (at_ k1+1+k2)) (Y k1 (at_ k1+1+k2)) (I k1 (at_ k1+1+k2)))).map bv++sp8x).toArray)],y2.2,Ai y1.1 NR,y1.2.1.bl,y1.2.2.1.bl,y1.2.2.2.1]) (ms:=[[(g0,23,(sd.map bv).toArray)],[(g1,31,zS33.toArray)],[(g2,31,(sgx (List.replicate 32 (0:UInt8)) y1.2.1.v).toArray)],[(gk,42,(AH fR (nk k1)++sp).toArray)],[(q8x,5,((Av (rPt (rgF bM sd k1 (at_ k1+1+k2)) (rgC bM (alX (rgF bM sd k1) bM k1 (at_ k1+1) (X k1) (Y k1) (I k1) (sgX bM sd k1) k2) k1 (at_ k1+1+k2)) (X k1 (at_ k1+1+k2)) (Y k1 (at_ k1+1+k2)) (I k1 (at_ k1+1+k2)))).map bv++sp8x).toArray)],Ai y1.1 NR,y1.2.1.bl,y1.2.2.1.bl,y1.2.2.2.1]) [y2.2] [0,1,2,3,4,6,7,8,9,5] kR (by rfl) (by rfl) (by rfl) hw)
     ·have lb6:=dY hb6
      refine sT<|Sy.skip<|Sy.then_<|Sy.seq<|Sy.block<|Sy.region<|sP (y2.v)<|sS (.agg (sd.map bv).toArray) (Quiet.load 0 g0 0 32 23 23 (sd.map bv).toArray _ _ U kR kR DA U kR _ (BF sd hsd) (Bh sd hsd))<|sP (.slice (pA qx) 32 cpx)<|sP (iZ k1)<|sP (iZ k2)<|sS (fv (rgF bM sd k1 k2)) (qG 18 #[.agg (sd.map bv).toArray,.slice (pA qx) 32 cpx,iZ k1,iZ k2] (λw hw=>N2 w sd hsd (pA qx) bM cpx hbl hcx.1 hcx.2 (DX (hw.blk _ _ _ (List.mem_append.2 (.inr (List.mem_append.2 (.inr (List.mem_append.2 (.inr (List.mem_append.2 (.inr (List.mem_append.2 (.inr (List.mem_append.2 (.inl hmT))))))))))))).2) k1 k2 om om (htr.below hw.below htr.lt)))<|Sy.make kR 42 (fcs (rgF bM sd k1 k2)) (λg=>.slice (pA g) 1 1) kF (λg6=>?_)
      refine Sy.movT<|Sy.appendR kR 51 42 _ _ 4 32 CG EE U U U U dZ _ _ U hh2 kR (fws (rgF bM sd k1 k2)) U (C0 _) 3 g6 42 kR kR (by rw [List.length_map,List.length_range]; omega) (by rw [List.length_map,List.length_range]; simp only [maxLen]; omega) (λr3 hr3=>?_)
      refine sP (r3.v)<|Sy.nil<|Sy.in_<|Sy.then_<|Sy.region<|sP (iZ k2)<|sS (iZ (k2+1)) (qad U U U)<|sP (iZ (k2+1))<|Sy.nil ?_
      exact Sy.againT (r3) om (by rw [List.range_succ,List.map_append]; exact hr3) P7 (λw hw=>St.parts (ls:=[[(g0,23,(sd.map bv).toArray)],[(g1,31,zS33.toArray)],[(g2,31,(sgx (List.replicate 32 (0:UInt8)) y1.2.1.v).toArray)],[(g6,42,(fcs (rgF bM sd k1 k2)))],r3.bl,Ai y1.1 NR,y1.2.1.bl,y1.2.2.1.bl,y1.2.2.2.1]) (ms:=[[(g0,23,(sd.map bv).toArray)],[(g1,31,zS33.toArray)],[(g2,31,(sgx (List.replicate 32 (0:UInt8)) y1.2.1.v).toArray)],r3.bl,Ai y1.1 NR,y1.2.1.bl,y1.2.2.1.bl,y1.2.2.2.1]) [[(g6,42,(fcs (rgF bM sd k1 k2)))]] [0,1,2,4,5,6,7,8,3] kR (by rfl) (by rfl) (by rfl) hw)
   ·have lb3:=dY hb3
    refine sT<|Sy.skip<|Sy.then_<|Sy.seq<|Sy.block<|Sy.seq<|Sy.seq<|Sy.regionD (λj=>false) kR<|sZ 0 U (.slice S NR cS)<|sZ 1 U (iZ k1)<|sD 2 U (.pointer (some ⟨gS,oS+k1*5,none⟩)) (Quiet.pure (AJ 26 _ _ _ S gS oS NR cS k1 5 .i64 (hS om).1 U U U Gu kF om))<|sZ 3 U (.pointer (some ⟨gS,oS+k1*5+0,none⟩))<|sD 4 U (.int .i64 (At k1)) (Quiet.thereOne gS (oS+k1*5+0) 3 _ _ U kR (hS om).2.1 _ (AU ((hS om).2.2 k1 om) 0 U) uy3 U) ?_
    obtain ⟨b8,hb8⟩:=xE (decide ((At k1)<0))
    refine sD 5 U (.bool b8) (Quiet.pure (AV .lss _ _ _ .i64 _ _ _ U U U (JZ _ _ _ _ _ hb8.symm)))<|sZ 6 U (.bool b8) ?_
    cases b8
    ·have lb8:=dN hb8
     refine sZ 7 U (.slice S NR cS)<|sZ 8 U (iZ k1)<|sD 9 U (.pointer (some ⟨gS,oS+k1*5,none⟩)) (Quiet.pure (AJ 26 _ _ _ S gS oS NR cS k1 5 .i64 (hS om).1 U U U Gu kF om))<|sZ 10 U (.pointer (some ⟨gS,oS+k1*5+0,none⟩))<|sD 11 U (.int .i64 (At k1)) (Quiet.thereOne gS (oS+k1*5+0) 3 _ _ U kR (hS om).2.1 _ (AU ((hS om).2.2 k1 om) 0 U) uy3 U)<|sZ 12 U (.slice R NR cR)<|sZ 13 U (iZ k1)<|sD 14 U (.pointer (some ⟨gR,oR+k1*1,none⟩)) (Quiet.pure (AJ 25 _ _ _ R gR oR NR cR k1 1 .i64 (hR om).1 U U U CP kF om))<|sD 15 U (.slice (a k1) (nk k1) (ck k1)) (Quiet.thereOne gR (oR+k1*1) 45 _ _ U kR (hR om).2.1 _ (AU ((hR om).2.2 k1 om) 0 U) B1 U)<|sZ 16 U (iZ ((nk k1))) ?_
     obtain ⟨b9,hb9⟩:=xE (decide ((At k1) ≥ (((nk k1):Nat):Int)))
     refine sD 17 U (.bool b9) (Quiet.pure (AV .geq _ _ _ .i64 _ _ _ U U U (EC _ _ _ _ _ hb9.symm)))<|sZ 18 U (.bool b9)<|sI ?_
     cases b9
     ·have lb9:=dN hb9
      refine sU<|Sy.skip<|sR (λj=>false) ?_
      refine sZ 0 U (.slice S NR cS)<|sZ 1 U (iZ k1)<|sD 2 U (.pointer (some ⟨gS,oS+k1*5,none⟩)) (Quiet.pure (AJ 26 _ _ _ S gS oS NR cS k1 5 .i64 (hS om).1 U U U Gu kF om))<|sZ 3 U (.pointer (some ⟨gS,oS+k1*5+1,none⟩))<|sD 4 U (fv (sx k1)) (Quiet.there gS (oS+k1*5+1) 4 42 (fws (sx k1)) _ _ U kR (hS om).2.1 (F4 ((hS om).2.2 k1 om) 1 U) Ah U kR U _ U)<|sD 5 U (pv (pX bP) (pY bP) (pI bP)) (qF 16 #[] (λw=>by rw [← BU]; exact Gk w)) ?_
      have lsx:=hsx k1
      obtain ⟨R2,hR2⟩:∃ P:Pt,P=Ec.nm Ad ((sx k1)%Sc.pM) bP:=⟨_,rfl⟩
      have oR2:Ec.On R2:=by rw [hR2]; exact bP_on.nm fld _
      refine sD 6 U (pv (pX R2) (pY R2) (pI R2)) (qF 15 #[fv (sx k1),pv (pX bP) (pY bP) (pI bP)] (Gd lP lP lP (Be bP_on) hR2.symm))<|sZ 7 U (.slice R NR cR)<|sZ 8 U (iZ k1)<|sD 9 U (.pointer (some ⟨gR,oR+k1*1,none⟩)) (Quiet.pure (AJ 25 _ _ _ R gR oR NR cR k1 1 .i64 (hR om).1 U U U CP kF om))<|sD 10 U (.slice (a k1) (nk k1) (ck k1)) (Quiet.thereOne gR (oR+k1*1) 45 _ _ U kR (hR om).2.1 _ (AU ((hR om).2.2 k1 om) 0 U) B1 U)<|sZ 11 U (.slice S NR cS)<|sZ 12 U (iZ k1)<|sD 13 U (.pointer (some ⟨gS,oS+k1*5,none⟩)) (Quiet.pure (AJ 26 _ _ _ S gS oS NR cS k1 5 .i64 (hS om).1 U U U Gu kF om))<|sZ 14 U (.pointer (some ⟨gS,oS+k1*5+0,none⟩))<|sD 15 U (.int .i64 (At k1)) (Quiet.thereOne gS (oS+k1*5+0) 3 _ _ U kR (hS om).2.1 _ (AU ((hS om).2.2 k1 om) 0 U) uy3 U) ?_
      obtain ⟨gK,oK,hT⟩:=hlk k1 om
      obtain ⟨p1,hp1⟩:∃ q:Nat,(At k1)=(q:Int):=⟨((At k1)).toNat,by omega⟩
      refine sD 16 U (.pointer (some ⟨gK,oK+p1*9,none⟩)) (Quiet.pure (AJ 45 _ _ _ (a k1) gK oK (nk k1) (ck k1) p1 9 .i64 (hT om).1 U U (show Value.int .i64 (At k1)=iZ p1 from by rw [hp1]) B1 kF om))<|sD 17 U (pv (X k1 p1) (Y k1 p1) (I k1 p1)) (Quiet.there gK (oK+p1*9) 9 48 (pml (X k1 p1) (Y k1 p1) (I k1 p1)) _ _ U kR (hT om).2.1 ((hT om).2.2 p1 om) Ac U kR U _ U) ?_
      obtain ⟨b10,hb10⟩:=xE (!CU (sx k1) (X k1 p1) (Y k1 p1) (I k1 p1))
      refine sD 18 U (.bool b10) (Quiet.pure (λw=>by rw [hb10,show CU (sx k1) (X k1 p1) (Y k1 p1) (I k1 p1)=CT (pX R2) (pY R2) (pI R2) (X k1 p1) (Y k1 p1) (I k1 p1) by rw [hR2]; rfl]; exact SZ w _ _ _ _ _ _ _ _ _ _ U U U (EN _) (EM _) (hX _ _) (hY _ _)))<|sI ?_
      cases b10
      ·refine sU<|Sy.skip<|Sy.in_<|Sy.then_<|Sy.region ?_
       refine sP (iZ k1)<|sS (iZ (k1+1)) (qad U U U)<|sP (iZ (k1+1))<|Sy.nil ?_
       exact Sy.againH [true,true] (M:=[(g0,23,(sd.map bv).toArray),(g1,31,zS33.toArray)]) om (λj hj=>(Nat.lt_succ_iff_lt_or_eq.1 hj).elim (hh1 j) (λh=>by subst h; exact (Hu lb8 lb9 hp1).trans (by rw [show CU _ _ _ _=!(!CU _ _ _ _) from (Bool.not_not _).symm, ← hb10]; rfl))) ac6 kR (AR U (AR U U))
      ·refine sT<|sC ?_
       refine sP (AM (List.replicate 32 (0:UInt8)) none 0 0)<|sW 1 g1 31 zS33.toArray zS33.toArray (Writes.row 31 zS33 33 _ _ U kR kR kR (Ag List.length_replicate) (by rw [List.size_toArray,Ag List.length_replicate]) Bo)<|sP (.int .i64 81)<|sG<|Sy.ret<|Sy.in_ret<|Sy.then_ret<|Sy.then_ret<|Sy.in_ret<|Sy.then_ret ?_
       exact BD [] rfl (v:=AM (List.replicate 32 (0:UInt8)) none 0 0) (u:=.int .i64 81) (.inl (Res.cell (ty':=31) g1 1 zS33.toArray _ kR kR DV U (by rw [List.size_toArray,Ag List.length_replicate]; kernel_rfl) rfl)) (.inl (show _=_ by kernel_rfl)) (λ_ hw=>hw.none) (.inr (.inl ⟨hb1.symm,Ev (k:=k1) (by assumption) ((Hu lb8 lb9 hp1).trans (by rw [show CU _ _ _ _=!(!CU _ _ _ _) from (Bool.not_not _).symm, ← hb10]; rfl)),rfl,rfl⟩))
     ·have lb9:=dY hb9
      refine sT<|sC<|sP (AM (List.replicate 32 (0:UInt8)) none 0 0)<|sW 1 g1 31 zS33.toArray zS33.toArray (Writes.row 31 zS33 33 _ _ U kR kR kR (Ag List.length_replicate) (by rw [List.size_toArray,Ag List.length_replicate]) Bo)<|sP (.int .i64 81)<|sG<|Sy.ret<|Sy.then_ret<|Sy.in_ret<|Sy.then_ret<|Sy.then_ret<|Sy.in_ret<|Sy.then_ret ?_
      exact BD [] rfl (v:=AM (List.replicate 32 (0:UInt8)) none 0 0) (u:=.int .i64 81) (.inl (Res.cell (ty':=31) g1 1 zS33.toArray _ kR kR DV U (by rw [List.size_toArray,Ag List.length_replicate]; kernel_rfl) rfl)) (.inl (show _=_ by kernel_rfl)) (λ_ hw=>hw.none) (.inr (.inl ⟨hb1.symm,Ev (k:=k1) (by assumption) (KZ lb9),rfl,rfl⟩))
    ·have lb8:=dY hb8
     refine sQ 7 U<|sQ 8 U<|sQ 9 U<|sQ 10 U<|sQ 11 U<|sQ 12 U<|sQ 13 U<|sQ 14 U<|sQ 15 U<|sQ 16 U<|sQ 17 U<|sZ 18 U (.bool true)<|sI<|sT<|sC<|sP (AM (List.replicate 32 (0:UInt8)) none 0 0)<|sW 1 g1 31 zS33.toArray zS33.toArray (Writes.row 31 zS33 33 _ _ U kR kR kR (Ag List.length_replicate) (by rw [List.size_toArray,Ag List.length_replicate]) Bo)<|sP (.int .i64 81)<|sG<|Sy.ret<|Sy.then_ret<|Sy.in_ret<|Sy.then_ret<|Sy.then_ret<|Sy.in_ret<|Sy.then_ret ?_
     exact BD [] rfl (v:=AM (List.replicate 32 (0:UInt8)) none 0 0) (u:=.int .i64 81) (.inl (Res.cell (ty':=31) g1 1 zS33.toArray _ kR kR DV U (by rw [List.size_toArray,Ag List.length_replicate]; kernel_rfl) rfl)) (.inl (show _=_ by kernel_rfl)) (λ_ hw=>hw.none) (.inr (.inl ⟨hb1.symm,Ev (k:=k1) (by assumption) (Mr lb8),rfl,rfl⟩))
  ·have lb2:=dY hb2
   refine sT<|sC<|sP (AM (List.replicate 32 (0:UInt8)) none 0 0)<|sW 1 g1 31 zS33.toArray zS33.toArray (Writes.row 31 zS33 33 _ _ U kR kR kR (Ag List.length_replicate) (by rw [List.size_toArray,Ag List.length_replicate]) Bo)<|sP (.int .i64 81)<|sG<|Sy.ret<|Sy.then_ret ?_
   exact BD [] rfl (v:=AM (List.replicate 32 (0:UInt8)) none 0 0) (u:=.int .i64 81) (.inl (Res.cell (ty':=31) g1 1 zS33.toArray _ kR kR DV U (by rw [List.size_toArray,Ag List.length_replicate]; kernel_rfl) rfl)) (.inl (show _=_ by kernel_rfl)) (λ_ hw=>hw.none) (.inr (.inl ⟨hb1.symm,Ka lb2,rfl,rfl⟩))
end Cu
end
section
namespace Cu
open Go.RowKit Sy
theorem Ov (k e x:Nat) {px py:Nat} {pi:Bool} (hd:dec px py pi=evP x):rPt (Sc.subP k (Sc.mulP e x)) e px py pi=evP k:=by
 have oB:Ec.On bP:=bP_on
 have oX:Ec.On (evP x):=Lv x
 unfold rPt
 rw [hd,GS oB,GS oX]
 have e1:Ec.nm Ad (Sc.subP k (Sc.mulP e x)) bP=Ec.add Ad (Ec.nm Ad k bP) (Ec.neg (Ec.nm Ad e (evP x))):=by
  unfold Sc.subP
  rw [GS oB,Ec.nm_add fld oB]
  have e2:Ec.nm Ad (Sc.pM - Sc.mulP e x%Sc.pM) bP=Ec.nm Ad (Sc.negP (Sc.mulP e x)%Sc.pM) bP:=by
   unfold Sc.negP
   rw [GS oB,GS oB]
  rw [e2,Qr oB,GS oB]
  unfold Sc.mulP evP
  rw [GS oB,Ec.nm_mul fld oB,GS oB]
 rw [e1]
 have o1:=oX.nm fld e
 rw [Ec.assoc fld (oB.nm fld k) o1.neg o1,Ec.neg_add,Ec.add_zero]
 unfold evP
 rw [GS oB]
theorem O6 {x px py:Nat} {pi:Bool} (h:CU x px py pi=true):dec px py pi=evP x:=by
 unfold CU CT at h
 rw [Bool.and_eq_true,Bool.and_eq_true,decide_eq_true_iff,decide_eq_true_iff,beq_iff_eq] at h
 rw [← h.1, ← h.2.1, ← h.2.2]
 exact Be (Lv x)
section
variable {s s':Nat→Nat} {bm x:List UInt8} {i:Nat} {X Y:Nat→Nat} {I:Nat→Bool}
theorem GD {f:Nat}:∀ k,(∀ j,j<k→s (f+j)=s' (f+j))→alX s bm i f X Y I x k=alX s' bm i f X Y I x k
 | 0,_=>rfl
 | k+1,h=>by
  show Av (rPt (s (f+k)) (rgC bm (alX s bm i f X Y I x k) i (f+k)) (X (f+k)) (Y (f+k)) (I (f+k)))=Av (rPt (s' (f+k)) (rgC bm (alX s' bm i f X Y I x k) i (f+k)) (X (f+k)) (Y (f+k)) (I (f+k)))
  rw [GD k (λj hj=>h j om),h k (Nat.lt_succ_self k)]
theorem M7 (f:Nat):∀ k,alX s bm i 0 X Y I x (f+k)=alX s bm i f X Y I (alX s bm i 0 X Y I x f) k
 | 0=>rfl
 | k+1=>by
  rw [← Nat.add_assoc,DF,M7 f k]
  rfl
end
section
variable {bm sd:List UInt8} {X Y:Nat→Nat→Nat} {I:Nat→Nat→Bool} {at_ nk sx:Nat→Nat} {d:List UInt8}
theorem Ob {i j:Nat} (h:j≠at_ i):sgS bm sd X Y I at_ sx d i j=rgF bm sd i j:=if_neg h
theorem SH (i:Nat):sgS bm sd X Y I at_ sx d i (at_ i)=Sc.subP (rgN bm sd i) (Sc.mulP (sgE bm sd X Y I at_ d i) (sx i)):=if_pos U
theorem MO (i j:Nat):sgS bm sd X Y I at_ sx d i j%Sc.pM=sgS bm sd X Y I at_ sx d i j:=by
 unfold sgS
 split
 ·exact Nat.mod_mod _ _
 ·exact Nat.mod_mod _ _
theorem Oa (i:Nat):alX (sgS bm sd X Y I at_ sx d i) bm i 0 (X i) (Y i) (I i) d (at_ i)=alX (rgF bm sd i) bm i 0 (X i) (Y i) (I i) d (at_ i) :=
 GD _ λj hj=>Ob om
theorem NK {i:Nat} (h:CU (sx i) (X i (at_ i)) (Y i (at_ i)) (I i (at_ i))=true):alX (sgS bm sd X Y I at_ sx d i) bm i 0 (X i) (Y i) (I i) d (at_ i+1)=sgX bm sd i:=by
 rw [DF,Oa,SH]
 show Av (rPt (Sc.subP (rgN bm sd i) (Sc.mulP (sgE bm sd X Y I at_ d i) (sx i))) (sgE bm sd X Y I at_ d i) _ _ _)=Av _
 rw [Ov _ _ _ (O6 h)]
theorem OZ {i:Nat} (ha:at_ i<nk i) (h:CU (sx i) (X i (at_ i)) (Y i (at_ i)) (I i (at_ i))=true):alX (sgS bm sd X Y I at_ sx d i) bm i 0 (X i) (Y i) (I i) d (nk i)=sgL bm sd X Y I at_ nk i:=by
 have e:nk i=at_ i+1+(nk i - (at_ i+1)):=om
 rw [e,M7,NK h]
 unfold sgL
 exact GD _ λj hj=>Ob om
theorem MN:∀ k,(∀ i,i<k→at_ i<nk i∧CU (sx i) (X i (at_ i)) (Y i (at_ i)) (I i (at_ i))=true)→Dj (sgS bm sd X Y I at_ sx d) bm X Y I d nk k=D5 bm sd X Y I at_ nk k
 | 0,_=>rfl
 | k+1,h=>by
  show Dj _ bm X Y I d nk k++alX _ bm k 0 _ _ _ d (nk k)=D5 bm sd X Y I at_ nk k++sgL bm sd X Y I at_ nk k
  rw [MN k (λi hi=>h i om),OZ (h k (Nat.lt_succ_self k)).1 (h k (Nat.lt_succ_self k)).2]
theorem Po {NR:Nat} {sn:Nat→Nat} (hs:∀ i,i<NR→sn i=nk i) (h:∀ i,i<NR→at_ i<nk i∧CU (sx i) (X i (at_ i)) (Y i (at_ i)) (I i (at_ i))=true):chB (sgS bm sd X Y I at_ sx (sgD bm sd X Y I at_ nk NR)) bm X Y I (sgD bm sd X Y I at_ nk NR) NR NR sn nk=true :=
 Jf U (λi hi=>Ib (hs i hi) λj _=>MO i j) (by rw [MN NR h]; rfl)
end
end Cu
end
section
namespace Cu
open Go.RowKit Sy
theorem DZ {w:World} {g s:Nat} {t:TypeId} {cs:Array Value} {f:Nat→List Value} (hb:Blk w g t cs) (hf:cs.toList=f 0):Lst w s (pA g) 1 f:=⟨g,0,λ_=>⟨rfl,hb.lt,λj hj=>by
 obtain rfl:j=0:=om
 rw [Nat.zero_mul]
 refine CM hb ?_
 rw [List.drop_zero,hf,List.take_of_length_le (Nat.le_refl _)]⟩⟩
end Cu
end
section
namespace Cu
open Go.RowKit Sy
def SgU (w0:Base) (d:List UInt8) (N:Nat) (nk:Nat→Nat) (s:Nat→Nat→Nat) (en:Int) (v:Value) (M:AB):Prop:=∃ (W:Option Addr) (c:Nat) (sa:Nat→Option Addr) (sc:Nat→Nat),v=.tuple #[AM d W N c,.int .i64 en]∧∀ (w:World) (L:AB),St w0 w L→(∀ b∈M,b∈L)→Lst w 1 W N (λi=>[.slice (sa i) (nk i) (sc i)])∧∀ i,i<N→Lst w 4 (sa i) (nk i) (λk=>fws (s i k))
def slA:Value→Option Addr
 | .slice A _ _=>A
 | _=>none
def slC:Value→Nat
 | .slice _ _ c=>c
 | _=>0
theorem SgU.zero (w0:Base) (d:List UInt8) (nk:Nat→Nat) (s:Nat→Nat→Nat) (en:Int):SgU w0 d 0 nk s en (.tuple #[AM d none 0 0,.int .i64 en]) [] :=
 ⟨none,0,λ_=>none,λ_=>0,rfl,λ_ _ _ _=>⟨⟨0,0,λh=>absurd h (Nat.lt_irrefl _)⟩,λi hi=>absurd hi (Nat.not_lt_zero _)⟩⟩
theorem SgU.rows {w0:Base} {d:List UInt8} {NR g cap:Nat} {nk:Nat→Nat} {s:Nat→Nat→Nat} {r:Nat→Slc} {sp:List Value} {M:AB} (hr:RowsAre r 42 4 (λi j=>fws (s i j)) (Bx nk NR 0)) (hM:M=(g,51,(AH (λj=>[(r j).v]) NR++sp).toArray)::Ai r NR) (en:Int):SgU w0 d NR nk s en (.tuple #[AM d (pA g) NR cap,.int .i64 en]) M:=by
 have hv:∀ i,i<NR→(r i).v=.slice (slA (r i).v) (nk i) (slC (r i).v):=λi hi=>by
  obtain ⟨A,k,h1,_⟩:=hr.lst (CH hi) hi
  rw [h1]
  rfl
 refine ⟨_,_,λi=>slA (r i).v,λi=>slC (r i).v,rfl,λw L hw hb=>⟨?_,λi hi=>?_⟩⟩
 ·exact E0 (BN (f:=λj=>[(r j).v]) (λ_=>rfl) hw (hb _ (by rw [hM]; exact List.mem_cons_self ..))) (λi hi=>by rw [← hv i hi])
 ·obtain ⟨A,k,h1,_,_,h2⟩:=hr.lst (CH hi) hi
  have h3:=h2 hw (λb h=>hb b (by rw [hM]; exact List.mem_cons_of_mem _ h))
  show Lst w 4 (slA (r i).v) _ _
  rw [h1]
  exact h3
section
variable {w0:Base} {br bf:Bool} {d:List UInt8} {s:Nat→Nat→Nat} {nk:Nat→Nat} {NR:Nat} {v:Value} {M:AB}
def uD (br bf:Bool) (d:List UInt8):List UInt8:=if br && bf then d else List.replicate 32 0
def uN (br bf:Bool) (N:Nat):Nat:=if br && bf then N else 0
def uE (br bf:Bool):Int:=if br then (if bf then 0 else 81) else 80
theorem OK (h:d.length=32):(uD br bf d).length=32:=by unfold uD; split; exact h; exact List.length_replicate
theorem TE:uN br bf NR≤NR:=by unfold uN; split; exact Nat.le_refl _; exact Nat.zero_le _
theorem SgnR8.uni (h:SgnR8 br bf d (λi j=>fws (s i j)) nk NR v M):SgU w0 (uD br bf d) (uN br bf NR) nk s (uE br bf) v M:=by
 rcases h with ⟨rfl,rfl,rfl⟩ | ⟨rfl,rfl,rfl,rfl⟩ | ⟨rfl,rfl,u,rfl,g,cap,sp,r,rfl,_,rfl,hr⟩
 ·exact SgU.zero w0 _ nk s 80
 ·exact SgU.zero w0 _ nk s 81
 ·exact SgU.rows hr U 0
end
def csl (sd:List UInt8) (us:List Value):List Value:=sd.map bv++us
def csv (sd:List UInt8) (us:List Value):Value:=.agg (csl sd us).toArray
section
variable {sd:List UInt8} {us:List Value}
theorem Mx (h:sd.length=32) (k:Nat):(csl sd us).toArray[32+k]? = us[k]?:=by
 rw [List.getElem?_toArray]
 unfold csl
 rw [List.getElem?_append_right (by rw [List.length_map,h]; exact Nat.le_add_right _ _),List.length_map,h,Nat.add_sub_cancel_left]
theorem Kl (h:sd.length=32):Value.agg (((csl sd us).toArray.toList.drop 0).take 32).toArray=.agg (sd.map bv).toArray:=by
 show Value.agg (((csl sd us).drop 0).take 32).toArray=_
 rw [List.drop_zero]
 unfold csl
 rw [List.take_left' (by rw [List.length_map,h])]
theorem Mw (h:sd.length=32):0+32≤(csl sd us).toArray.size:=by rw [List.size_toArray]; unfold csl; rw [List.length_append,List.length_map,h]; omega
end
end Cu
end
section
namespace Cu
open Go.ChangeShapes Go.WideShapes Go.ChangeAt Go.RowKit Sy Go.Deep
theorem Kv {H:Type}:∀ {l:List (DataW H)} {d:DataW H},d∈l→Rows.uptoBulk d≤Rows.uptoBulkAll l
 | [],_,h=>by cases h
 | d'::r,d,h=>by
  simp only [Rows.uptoBulkAll]
  cases List.mem_cons.1 h with
  | inl e=>subst e; omega
  | inr h=>have:=Kv h; omega
theorem LW {α:Type} [Inhabited α] (cells:α→List Value) (ok:α→Prop) (sz:α→Nat) (s:Nat) (hs:0<s) (hc:∀ x,(cells x).length=s) (h0:ok default) (h1:sz default=0) {H:Type} {enc:TypeId×Value→H} {P:Program} {W:World} {t e:TypeId} {fuel:Nat} {cs:List Value} {x:DataW H×List MemPlace}
  (ht:P.underlying t=some (.slice e)) (hce:P.cellsOf e=s) (hel:∀ (fuel:Nat) (cs:List Value) (x:DataW H×List MemPlace),cs.length=s→DataW.trod enc P W 0 (λ_=>true) true fuel e cs=some x→∃ y,ok y∧cs=cells y∧sz y≤Rows.uptoBulk x.1)
  (hf:DataW.trod enc P W 0 (λ_=>true) true fuel t cs=some x) :
  ∃ (A:Option Addr) (m c:Nat) (T:Nat→α),cs=[.slice A m c]∧m≤c∧c≤9223372036854775807∧(∀ j,ok (T j))∧(∀ j,sz (T j)≤Rows.uptoBulk x.1)∧Lst W s A m (λj=>cells (T j))∧m≤Rows.uptoBulk x.1:=by
 rcases open_slice ht hf with ⟨hcs,hx⟩ | ⟨a,len,cap,m,n,D,Pl,hcs,_,hl,hm,hme,hx,hall⟩
 ·exact ⟨none,0,0,λ_=>default,hcs,Nat.le_refl _,by omega,λ_=>h0,λ_=>by rw [h1]; exact Nat.zero_le _,PH λhn=>absurd hn (Nat.lt_irrefl _),Nat.zero_le _⟩
 ·simp only [if_true] at hme
  subst hme
  rw [hce] at hall
  have hb:∀ i,i<len→Rows.uptoBulk (D i)≤Rows.uptoBulk x.1:=λi hi=>by
   subst hx
   have:=Kv (l:=(List.range len).map D) (d:=D i) (List.mem_map.2 ⟨i,List.mem_range.2 hi,rfl⟩)
   simp only [Rows.uptoBulk]
   omega
  obtain ⟨X,hX0,hX⟩:=L2 (α:=α) (n:=len) (p:=λi y=>(ok y∧sz y≤Rows.uptoBulk x.1)∧W.cells? 0 (a.add (i*s)) s=some (cells y)) (λi hi=>by
   obtain ⟨cs',h1,h2⟩:=hall i om
   obtain ⟨y,hy,rfl,hz⟩:=hel _ _ _ (L3 h1) h2
   exact ⟨y,⟨hy,Nat.le_trans hz (hb i hi)⟩,h1⟩) (λy=>ok y∧sz y≤Rows.uptoBulk x.1) ⟨h0,by rw [h1]; exact Nat.zero_le _⟩ (λ_ _ hp=>hp.1)
  refine ⟨some a,len,m,X,hcs,hl,by simpa [maxLen] using hm,λj=>(hX0 j).1,λj=>(hX0 j).2,PH λhpos=>?_,?_⟩
  ·obtain ⟨_,hc0⟩:=hX 0 hpos
   obtain ⟨v0,hv0⟩:∃ v0,(cells (X 0))[0]? = some v0:=⟨(cells (X 0))[0]'(by rw [hc]; exact hs),List.getElem?_eq_getElem _⟩
   have hcell:W.cell? a=some v0:=by
    have:=GP hc0 0 v0 hv0
    simpa [Addr.add] using this
   obtain ⟨b,o,rfl,hlt⟩:=L4 hcell
   refine ⟨b,o,rfl,hlt,λj hj i v hi=>?_⟩
   have:=GP (hX j hj).2 i v hi
   rwa [K7,K7] at this
  ·subst hx
   have:=Kw ((List.range len).map D)
   simp only [Rows.uptoBulk]
   simp only [List.length_map,List.length_range] at this
   omega
end Cu
end
section
namespace Cu
open Go.ChangeShapes Go.WideShapes Go.ChangeAt Go.RowKit Sy Go.Deep
end Cu
end
section
namespace Cu
open Go.RowKit Sy
def EJ (n:Nat):Bool:=decide (1≤n) && decide (n≤64)
theorem alw_iff {n:Nat}:EJ n=true↔1≤n∧n≤64:=by unfold EJ; rw [Bool.and_eq_true,decide_eq_true_iff,decide_eq_true_iff]
theorem GQ (w:World) (n:Nat) (hn:n≤9223372036854775807):Calls Tryz.prog 83 #[iZ n] w (Gets w (.bool (EJ n))):=by
 refine Sy.enter (args:=[iZ n]) Tryz.func83 U kL<|sC<|sP (.bool false)<|sA ?_
 obtain ⟨b1,hb1⟩:=xE (decide (n ≥ 1))
 refine sP (iZ n)<|sS (.bool b1) (qge U U U hb1)<|sP (.bool b1) ?_
 cases b1
 ·refine sN<|sN<|sP (.bool false)<|sP (.bool false) ?_
  refine sG<|Sy.ret ?_
  rw [show EJ n=false from by unfold EJ; rw [show decide (1≤n)=false from hb1.symm]; rfl]
  exact rV (.bool false) rfl
 ·obtain ⟨b2,hb2⟩:=xE (decide (n≤64))
  refine sP (iZ n)<|sS (.bool b2) (qle U U U hb2)<|sP (.bool b2)<|sP (.bool b2)<|sG<|Sy.ret ?_
  rw [show EJ n=b2 from by unfold EJ; rw [show decide (1≤n)=true from hb1.symm,hb2]; rfl]
  exact rV (.bool b2) rfl
theorem Ct (w:World) (px py:Nat) (pi:Bool) (hpx:px<K4) (hpy:py<K4):Calls Tryz.prog 84 #[pv px py pi] w (GetsN w (Cb (dec px py pi))):=by
 refine Sy.enter (args:=[pv px py pi]) Tryz.func84 U kL<|sC<|sM 48 (pcs px py pi) (λg0=>?_)
 refine sP (.slice none 0 0)<|sA<|sS (pv px py pi) (qL 0 g0 0 9 48 48 (pcs px py pi) rfl Ac)<|sS (.agg ((Av (dec px py pi)).map bv).toArray) (qF 146 #[pv px py pi] (λw=>Ms w px py pi hpx hpy))<|Sy.make kR 174 (Zl 33).toArray ptr kF (λg1=>?_)
 refine Sy.write kR 1 g1 174 (Zl 33).toArray ((Av (dec px py pi)).map bv).toArray kR (Writes.store 0 174 ((Av (dec px py pi)).map bv).toArray _ _ U kR kR (by rw [Cx (Av (dec px py pi)) (Ao _)]; kernel_rfl) (by rw [Cx (Av (dec px py pi)) (Ao _)]; exact Nat.le_of_ble_eq_true kR) (Er _) (Ge _ _ (by rw [(Ao _)]; kernel_rfl)))<|sA<|sP (.slice (pA g1) 33 33)<|sP (.slice (pA g1) 33 33)<|sG<|Sy.ret ?_
 exact IH 1 (g1,174,((Av (dec px py pi)).map bv).toArray) rfl (v:=.slice (pA g1) 33 33) (.inl (show _=_ by kernel_rfl)) kR ⟨_,rfl,rfl⟩
def BT (ax ay:Nat) (ai:Bool) (x y:Nat) (i:Bool):Pt:=Ec.add Ad (dec ax ay ai) (Ec.neg (dec x y i))
def Fq (f:Nat→List Value) (n:Nat) (v:Value) (M:AB):Prop:=∃ g1 g2,v=.slice (pA g2) 1 1∧M=[(g1,176,(AH (upto n f (pml 0 0 false)) 64).toArray),(g2,45,#[.slice (pA g1) n n])]
theorem N5 {P:Program} {F:AN} {o:Oper} (t:TypeId) (x hx' mx':Operand) (g f hi s:Nat) (kh km:IntKind) (ho:o.op=.slice t x none (some hx') (some mx')) (hx:evF F x=pT g f) (hh:evF F hx'=.int kh (hi:Int)) (hm:evF F mx'=.int km (hi:Int)) (ht:P.underlying t=some (.array (P.arrayLen t) (P.elem t))) (hsz:∀ w,(sizeOf (P.elem t)).run P w=.ok s w) (hle:hi≤P.arrayLen t) (w:World):(execOp (evF F) o).run P w=.ok (.value (.slice (some ⟨g,f,none⟩) hi hi)) w:=by
 have e:(Instr.sliceAt t (pT g f) none (some (.int kh (hi:Int))) (some (.int km (hi:Int)))).run P w=.ok (.slice (some ⟨g,f,none⟩) hi hi) w:=by
  rw [run_sliceAt_array_hm w t ⟨g,f,none⟩ ht kh km (hi:Int) (hi:Int) om om om]
  simp [hsz,slicedAt,Result.andThen,Addr.add]
 unfold execOp
 simp only [ho,hx,hh,hm,Option.map_some,Option.map_none,e,Sem.run_bind,Sem.run_pure,Result.andThen_ok]
theorem GH (w:World) (A:Option Addr) (n c:Nat) (X Y:Nat→Nat) (I:Nat→Bool) (hX:∀ k,X k<K4) (hY:∀ k,Y k<K4) (ax ay:Nat) (ai:Bool) (hax:ax<K4) (hay:ay<K4) (hn:n≤64) (hlk:Lst w 9 A n (λk=>pml (X k) (Y k) (I k))) :
  Calls Tryz.prog 85 #[.slice A n c,pv ax ay ai] w (GetsN w (Fq (λj=>pml (pX (BT ax ay ai (X j) (Y j) (I j))) (pY (BT ax ay ai (X j) (Y j) (I j))) (pI (BT ax ay ai (X j) (Y j) (I j)))) n)):=by
 obtain ⟨gK,oK,hT⟩:=hlk
 obtain ⟨fK,hfK⟩:∃ f:Nat→List Value,f=(λj=>pml (pX (BT ax ay ai (X j) (Y j) (I j))) (pY (BT ax ay ai (X j) (Y j) (I j))) (pI (BT ax ay ai (X j) (Y j) (I j)))):=⟨_,rfl⟩
 rw [← hfK]
 have hf9:∀ j,(fK j).length=9:=λj=>by rw [hfK]; rfl
 refine Sy.enter (args:=[.slice A n c,pv ax ay ai]) Tryz.func85 U kL<|sC<|sM 48 (pcs ax ay ai) (λg0=>?_)
 refine sP (.slice none 0 0)<|sG<|sC<|sM 176 (AH (λ_=>pml 0 0 false) 64).toArray (λg1=>?_)
 refine sG<|Sy.seq<|sC<|sP (.slice A n c)<|sP (iZ n)<|sP (.int .i64 0)<|sG<|Sy.block<|Sy.loopK n (λk1=>[(0,.slice A n c),(3,ptr g0),(5,ptr g1),(9,.slice A n c),(10,iZ n),(11,iZ k1)]) (λk1=>[(g0,48,(pcs ax ay ai)),(g1,176,(AH (upto k1 fK (pml 0 0 false)) 64).toArray)]) [true,true] (M:=[(g0,48,(pcs ax ay ai)),(g1,176,(AH (λ_=>pml 0 0 false) 64).toArray)]) ac6 kR (AR U (AR (beq Fu) rfl)) (λk1 hk1=>?_)
 refine sC ?_
 obtain ⟨b1,hb1⟩:=xE (decide (k1<n))
 refine sS (.bool b1) (qls U U U hb1)<|sG<|Sy.seq ?_
 cases b1
 ·have lb1:=dN hb1
  obtain rfl:n=k1:=om
  refine sU<|Sy.exit<|Sy.then_exit<|Sy.then_exit<|Sy.in_exit<|sB<|sP (.slice A n c)<|sP (iZ n)<|sP (iZ n)<|sA<|sP (iZ n)<|sP (iZ n)<|sS (.slice (pA g1) n n) (Quiet.pure (N5 176 _ _ _ g1 0 n 9 .i64 .i64 U U U U Rm kF hn))<|Sy.make kR 45 #[.slice (pA g1) n n] (λg=>.slice (pA g) 1 1) (λ_=>kR) (λg2=>?_)
  refine sP (.slice (pA g2) 1 1)<|sG<|Sy.ret ?_
  exact Do [(g1,176,(AH (upto n fK (pml 0 0 false)) 64).toArray),(g2,45,#[.slice (pA g1) n n])] rfl (v:=.slice (pA g2) 1 1) (.inl (show _=_ by kernel_rfl)) (λw hw=>St.less hw (by simp)) ⟨g1,g2,rfl,rfl⟩
 ·have lb1:=dY hb1
  refine sT<|Sy.skip<|Sy.then_<|Sy.seq<|Sy.block<|sC<|sP (iZ k1)<|sS (.pointer (some ⟨gK,oK+k1*9,none⟩)) (Quiet.pure (AJ 45 _ _ _ A gK oK n c k1 9 .i64 (hT om).1 U U U B1 kF om))<|sS (pv (X k1) (Y k1) (I k1)) (Quiet.there gK (oK+k1*9) 9 48 (pml (X k1) (Y k1) (I k1)) _ _ U kR (hT om).2.1 ((hT om).2.2 k1 om) Ac U kR U _ U)<|sM 48 (pcs 0 0 false) (λg7=>?_)
  refine sP (iZ k1)<|sW 2 g7 48 (pcs 0 0 false) (pcs (X k1) (Y k1) (I k1)) (wS 0 48 (pcs (X k1) (Y k1) (I k1)) U) ?_
  obtain ⟨Q,hQ⟩:=xE (Ec.neg (dec (X k1) (Y k1) (I k1)))
  have hQo:Ec.On Q:=by rw [hQ]; exact Ec.On.neg (C9 _ _ _)
  obtain ⟨S,hS⟩:=xE ((BT ax ay ai (X k1) (Y k1) (I k1)))
  have hSe:Ec.add Ad (dec ax ay ai) (dec (pX Q) (pY Q) (pI Q))=S:=by rw [Be hQo,hQ,hS]; rfl
  refine sG<|Sy.regionD (λj=>j == 6) kR<|sZ 0 U (iZ k1)<|sD 1 U (pv ax ay ai) (qL 0 g0 0 9 48 48 (pcs ax ay ai) rfl Ac)<|sD 2 U (pv (X k1) (Y k1) (I k1)) (qL 2 g7 0 9 48 48 (pcs (X k1) (Y k1) (I k1)) U Ac) <|
   sD 3 U (pv (pX Q) (pY Q) (pI Q)) (qF 136 #[pv (X k1) (Y k1) (I k1)] (λw=>by rw [← BU,hQ]; exact Md w _ _ _ (hX _) (hY _))) <|
   sD 4 U (pv (pX S) (pY S) (pI S)) (qF 135 #[pv ax ay ai,pv (pX Q) (pY Q) (pI Q)] (λw=>by have q:=Jj w ax ay ai (pX Q) (pY Q) (pI Q) hax hay (EN _) (EM _); rw [hSe,BU] at q; exact q)) <|
   sD 5 U (.pointer (some ⟨g1,0+k1*9,none⟩)) (Quiet.pure (Ax 176 _ _ _ g1 0 _ k1 9 .i64 U U U Rm kF om)) <|
   sX 6 U 1 g1 176 (AH (upto k1 fK (pml 0 0 false)) 64).toArray (AH (upto (k1+1) fK (pml 0 0 false)) 64).toArray (Writes.store (0+k1*9) 48 (pcs (pX S) (pY S) (pI S)) _ _ U kR kR kR (Fe (Az hf9 U _) (k:=k1) om om) kR (FK (v:=(pcs (pX S) (pY S) (pI S)).toList) hf9 U (by rw [hfK,hS]; rfl) om om)) ?_
  refine sE<|Sy.in_<|Sy.then_<|Sy.region<|sS (iZ (k1+1)) (qad U U U)<|sP (iZ (k1+1))<|Sy.nil ?_
  exact Sy.againK [true,true] (M:=[(g0,48,(pcs ax ay ai)),(g1,176,(AH (upto (k1+1) fK (pml 0 0 false)) 64).toArray)]) om ac6 kR (AR U (AR U U))
end Cu
end
section
namespace Cu
open Go.RowKit Sy
end Cu
end
section
namespace Cu
open Go.RowKit Sy
section
variable {At Bt:Nat→Int} {sx sy:Nat→Nat} {NS NT:Nat}
end
end Cu
end
section
namespace Sc
open Go.RowKit Go.Lib
end Sc
end
section
namespace Sc
open Go.RowKit Go.Lib
end Sc
end
section
namespace Cu
open Go.RowKit Sy
end Cu
end
section
namespace Cu
open Go.RowKit Sy
section
variable (bm sd:List UInt8) (i:Nat) (s:Nat→Nat)
end
section
variable {bm sd:List UInt8} {i n a:Nat} {s e:Nat→Nat} {X Y:Nat→Nat} {I:Nat→Bool}
end
end Cu
end
section
namespace Cu
open Go.RowKit Sy
section
variable (bm sd:List UInt8) (nk:Nat→Nat) (s e:Nat→Nat→Nat) (X Y:Nat→Nat→Nat) (I:Nat→Nat→Bool)
end
section
variable {bm sd:List UInt8} {nk:Nat→Nat} {s e:Nat→Nat→Nat} {X Y:Nat→Nat→Nat} {I:Nat→Nat→Bool} {NR:Nat}
end
end Cu
end
section
namespace Cu
open Go.RowKit Sy
end Cu
end
section
namespace Cu
open Go.RowKit Sy
section
variable {bm sd:List UInt8} {i n k p:Nat} {s:Nat→Nat}
end
end Cu
end
section
namespace Cu
open Go.RowKit Sy
theorem NF (w:World) (nm:List UInt8) (hnm:nm.length=32):Calls Tryz.prog 43 #[.agg (nm.map bv).toArray] w (GetsN w (λvq Mq=>∃ y:Slc,vq=y.v∧Mq=y.bl∧y.Is 5 1 (Aj nm))):=by
 refine (Sh.textR_any w nm hnm).mono ?_
 rintro e w' ⟨g,cap,rfl,ho,hl,hb⟩
 unfold Sh.OwnB at ho
 rw [hnm] at ho
 rcases ho.2 with ⟨h0,_⟩ | ⟨g',cap',cur,hv,hg,hk,q3,q4,q5,q6⟩
 ·cases h0
 ·cases hv
  refine ⟨_,[(g,5,cur)],rfl,⟨⟨.slice (pA g) 32 cap,[(g,5,cur)]⟩,rfl,rfl,?_⟩,hb,λg1 t1 cs1 hm=>?_,by simp⟩
  ·have q:=Slc.Is.mk' (g:=g) (nn:=32) (cap:=cap) (e:=5) (cs:=cur.toList) (Bb nm) (BE nm) (by rw [Am]; exact hnm) (by rw [Cg]; exact q6) (by rw [Array.length_toList]; exact q5) q3 q4
   exact q
  ·simp only [List.mem_singleton,Prod.mk.injEq] at hm
   obtain ⟨rfl,rfl,rfl⟩:=hm
   exact ⟨hg,hk⟩
def Ck (s:Nat→Nat):Nat→List UInt8
 | 0=>[]
 | k+1=>Ck s k++AW (s k%Sc.pM)
def CD (s:Nat→Nat→Nat) (sn:Nat→Nat):Nat→List UInt8
 | 0=>[]
 | k+1=>CD s sn k++Ck (s k) (sn k)
theorem C5 (s:Nat→Nat):∀ k,(Ck s k).length=32*k
 | 0=>rfl
 | k+1=>by
  show (Ck s k++AW _).length=_
  rw [List.length_append,C5 s k,AF]
  omega
theorem F1 (s:Nat→Nat→Nat) {sn:Nat→Nat} (h:∀ i,sn i≤1048576):∀ k,(CD s sn k).length≤33554432*k
 | 0=>Nat.le_refl _
 | k+1=>by
  show (CD s sn k++Ck _ _).length≤_
  have h1:=F1 s h k
  have h2:=h k
  rw [List.length_append,C5]
  omega
theorem PX (w:World) (d:List UInt8) (hd:d.length=32) (W:Option Addr) (NW cW:Nat) (sa:Nat→Option Addr) (sn sc:Nat→Nat) (s:Nat→Nat→Nat) (hsc:∀ i k,s i k<K4) (hNW:NW≤4611686018427387904) (hsn9:∀ i,i<NW→sn i≤4611686018427387904) (hlw:Lst w 1 W NW (λi=>[.slice (sa i) (sn i) (sc i)])) (hls:∀ i,i<NW→Lst w 4 (sa i) (sn i) (λk=>fws (s i k))) (hW9:NW≤1048576) (hsB:∀ i,sn i≤1048576):Calls Tryz.prog 73 #[AM d W NW cW] w (GetsN w ((λvq Mq=>∃ y:Slc,vq=y.v∧Mq=y.bl∧y.Is 5 1 (Aj (d++CD s sn NW))))):=by
 obtain ⟨gW,oW,hW⟩:=hlw
 refine Sy.enter (args:=[AM d W NW cW]) Tryz.func73 U kL<|sC<|sM 31 (AO d W NW cW).toArray (λg0=>?_)
 refine sP (.slice none 0 0)<|sA<|sP (pT g0 0)<|sS (.agg (d.map bv).toArray) (Quiet.load 0 g0 0 32 31 23 (AO d W NW cW).toArray _ _ U kR kR DA U kR _ (G3 hd) (JH hd))<|Sy.callN kR 43 #[.agg (d.map bv).toArray] kF ((λvq Mq=>∃ y:Slc,vq=y.v∧Mq=y.bl∧y.Is 5 1 (Aj d))) (λw hw=>NF w d hd) (λvq Mq hR0=>?_)
 obtain ⟨y0,rfl,rfl,hy0⟩:=hR0
 refine Sy.permS (M:=[(g0,31,(AO d W NW cW).toArray)]++(y0.bl++([]))) (by rw [List.append_nil]; exact List.Perm.refl _)<|sP (y0.v)<|sG<|Sy.seq<|sC<|sP (.int .i64 0)<|sG<|Sy.block<|Sy.loopT (Y:=Slc) NW (λk1 y1=>[(1,pT g0 0),(3,y1.v),(4,iZ k1)]) (λk1 y1=>[(g0,31,(AO d W NW cW).toArray)]++(y1.bl++([]))) (λk1 y1=>y1.Is 5 1 (Aj (d++CD s sn k1))) y0 (by rw [show d++CD s sn 0=d from List.append_nil d]; exact hy0) ac3 (λw hw=>hw) (λk1 y1 hk1 hh1=>?_)
 refine Sy.seq<|sC<|sP (iZ k1)<|sP (pT g0 32)<|sS (.slice W NW cW) (Quiet.cell 0 g0 32 31 29 (AO d W NW cW).toArray _ _ U kR kR CO U _ (EK hd))<|sP (iZ NW) ?_
 obtain ⟨b1,hb1⟩:=xE (decide (k1<NW))
 refine sS (.bool b1) (qls U U U hb1)<|sG ?_
 cases b1
 ·have lb1:=dN hb1
  refine sU<|Sy.exit<|Sy.then_exit<|Sy.then_exit ?_
  obtain rfl:NW=k1:=om
  refine Sy.in_exit<|sB<|sP (y1.v)<|sP (y1.v)<|sG<|Sy.ret ?_
  exact Do y1.bl U (v:=y1.v) (.inl (show _=_ by kernel_rfl)) (λw hw=>St.parts (ls:=[[(g0,31,(AO d W NW cW).toArray)],y1.bl]) (ms:=[y1.bl]) [[(g0,31,(AO d W NW cW).toArray)]] [1,0] kR (by rfl) (by rfl) (by simp) hw) ⟨y1,rfl,rfl,hh1⟩
 ·have lb1:=dY hb1
  obtain ⟨gS,oS,hS⟩:=hls k1 lb1
  have hsn1:=hsB k1
  refine sT<|Sy.skip<|Sy.then_<|Sy.seq<|Sy.block<|sC<|sP (.int .i64 0)<|sG<|Sy.block<|Sy.loopT (Y:=Slc) (sn k1) (λk2 y2=>[(1,pT g0 0),(3,y2.v),(4,iZ k1),(5,iZ k2)]) (λk2 y2=>[(g0,31,(AO d W NW cW).toArray)]++(y2.bl++([]))) (λk2 y2=>y2.Is 5 1 (Aj (d++(CD s sn k1++Ck (s k1) k2)))) y1 (by rw [show CD s sn k1++Ck (s k1) 0=CD s sn k1 from List.append_nil _]; exact hh1) ac4 (λw hw=>hw) (λk2 y2 hk2 hh2=>?_)
  refine Sy.seq<|sC<|sP (iZ k2)<|sP (pT g0 32)<|sS (.slice W NW cW) (Quiet.cell 0 g0 32 31 29 (AO d W NW cW).toArray _ _ U kR kR CO U _ (EK hd))<|sP (iZ k1)<|sS (.pointer (some ⟨gW,oW+k1*1,none⟩)) (Quiet.pure (AJ 29 _ _ _ W gW oW NW cW k1 1 .i64 (hW om).1 U U U CO kF om))<|sS (.slice (sa k1) (sn k1) (sc k1)) (Quiet.thereOne gW (oW+k1*1) 51 _ _ U kR (hW om).2.1 _ (AU ((hW om).2.2 k1 om) 0 U) CG U)<|sP (iZ ((sn k1))) ?_
  obtain ⟨b2,hb2⟩:=xE (decide (k2<(sn k1)))
  refine sS (.bool b2) (qls U U U hb2)<|sG ?_
  cases b2
  ·have lb2:=dN hb2
   refine sU<|Sy.exit<|Sy.then_exit<|Sy.then_exit ?_
   obtain rfl:k2=sn k1:=om
   refine Sy.in_exit<|Sy.in_<|Sy.then_<|Sy.region<|sP (iZ k1)<|sS (iZ (k1+1)) (qad U U U)<|sP (iZ (k1+1))<|Sy.nil ?_
   exact Sy.againT (y2) om (by rw [show d++CD s sn (k1+1)=d++(CD s sn k1++Ck (s k1) (sn k1)) from rfl]; exact hh2) ac3 (λw hw=>hw)
  ·have lb2:=dY hb2
   refine sT<|Sy.skip<|Sy.then_<|Sy.seq<|Sy.block<|Sy.region<|sP (y2.v)<|sP (pT g0 32)<|sS (.slice W NW cW) (Quiet.cell 0 g0 32 31 29 (AO d W NW cW).toArray _ _ U kR kR CO U _ (EK hd))<|sP (iZ k1)<|sS (.pointer (some ⟨gW,oW+k1*1,none⟩)) (Quiet.pure (AJ 29 _ _ _ W gW oW NW cW k1 1 .i64 (hW om).1 U U U CO kF om))<|sS (.slice (sa k1) (sn k1) (sc k1)) (Quiet.thereOne gW (oW+k1*1) 51 _ _ U kR (hW om).2.1 _ (AU ((hW om).2.2 k1 om) 0 U) CG U)<|sP (iZ k2)<|sS (.pointer (some ⟨gS,oS+k2*4,none⟩)) (Quiet.pure (AJ 51 _ _ _ (sa k1) gS oS (sn k1) (sc k1) k2 4 .i64 (hS om).1 U U U CG kF om))<|sS (fv (s k1 k2)) (Quiet.there gS (oS+k2*4) 4 42 (fws (s k1 k2)) _ _ U kR (hS om).2.1 ((hS om).2.2 k2 om) Ah U kR U _ U)<|Sy.callN kR 133 #[fv (s k1 k2)] kF ((λvq Mq=>∃ (g:Nat) (sp:List Value) (cap:Nat),vq=.slice (pA g) 32 cap∧(32≤cap∧cap≤9223372036854775807)∧Mq=[(g,5,((AW (s k1 k2%Sc.pM)).map bv++sp).toArray)])) (λw hw=>UB w _ (hsc _ _)) (λvq Mq hR0=>?_)
   obtain ⟨q8,sp8,cp8,rfl,hc8,rfl⟩:=hR0
   refine Sy.movT<|Sy.appendM kR 24 5 _ _ 1 1 Ci Dg U U U U dZ _ _ U (ys:=Aj (AW (s k1 k2%Sc.pM))) hh2 kR (Bb _) (BE _) (pA q8) 32 cp8 (by rw [Am]; exact (AF _)) hc8.1 kR (λ_=>From.own (i:=1) (t:=5) (sp:=sp8) kR) (by have hq:=F1 s hsB k1; simp only [Am,List.length_append,C5]; omega) (by have hq:=F1 s hsB k1; simp only [Am,List.length_append,C5,maxLen]; omega) (λr1 hr1=>?_)
   refine sP (r1.v)<|Sy.nil<|Sy.in_<|Sy.then_<|Sy.region<|sP (iZ k2)<|sS (iZ (k2+1)) (qad U U U)<|sP (iZ (k2+1))<|Sy.nil ?_
   exact Sy.againT (r1) om (by rw [show d++(CD s sn k1++Ck (s k1) (k2+1))=(d++(CD s sn k1++Ck (s k1) k2))++AW (s k1 k2%Sc.pM) by show d++(CD s sn k1++(Ck (s k1) k2++_))=_; simp only [List.append_assoc],DT]; exact hr1) ac4 (λw hw=>St.parts (ls:=[[(g0,31,(AO d W NW cW).toArray)],[(q8,5,((AW (s k1 k2%Sc.pM)).map bv++sp8).toArray)],r1.bl]) (ms:=[[(g0,31,(AO d W NW cW).toArray)],r1.bl]) [[(q8,5,((AW (s k1 k2%Sc.pM)).map bv++sp8).toArray)]] [0,2,1] kR (by rfl) (by rfl) (by rfl) hw)
end Cu
end
section
namespace Cu
open Go.RowKit Sy
theorem Lw (w:World) (gA oA:Nat) (m:List UInt8) (n c:Nat) (hm:m.length=n) (hm9:n≤999000000) (hc:n≤c) (hc2:c≤9223372036854775807) (hs0:Sh.Src w (some ⟨gA,oA,none⟩) m):Calls Tryz.prog 147 #[.slice (some ⟨gA,oA,none⟩) n c] w (GetsN w ((λvq Mq=>∃ y:Slc,vq=y.v∧Mq=y.bl∧y.Is 5 1 (Aj m)))):=by
 refine Sy.enter (args:=[.slice (some ⟨gA,oA,none⟩) n c]) Tryz.func147 U kL<|sC<|sP (.slice none 0 0)<|sG<|Sy.seq<|sC<|sP (.slice (some ⟨gA,oA,none⟩) n c)<|sP (.bool false)<|sG<|sU<|Sy.skip<|sB<|Sy.make kR 5 #[] (λg=>.slice (pA g) 0 0) kF (λg0=>?_)
 refine sP (.slice (some ⟨gA,oA,none⟩) n c)<|Sy.permS (M:=[]++((⟨.slice (pA g0) 0 0,[(g0,5,#[])]⟩:Slc).bl++[])) (by exact List.Perm.refl _)<|Sy.appendM kR 24 5 _ _ 1 1 Ci Dg U U U U dZ _ _ U (ys:=Aj m) Fi kR (Bb _) (BE _) (some ⟨gA,oA,none⟩) n c (by rw [Am]; exact hm) hc kR (λ_=>From.src hs0) (by simp [Aj]; omega) (by simp [Aj,maxLen]; omega) (λr1 hr1=>?_)
 refine sP (r1.v)<|sG<|Sy.ret ?_
 exact Do r1.bl U (v:=r1.v) (.inl (show _=_ by kernel_rfl)) (λw hw=>by simpa using hw) ⟨r1,rfl,rfl,by have q:=hr1; simpa [Aj] using q⟩
theorem Nu (w:World) (q:Nat) (hq:q≤2000000):Calls Tryz.prog 206 #[.slice none 0 0,iZ q] w (GetsN w (Cs 42 4 [])):=by
 refine Sy.enter (args:=[.slice none 0 0,iZ q]) Tryz.func206 U kL<|sC<|sP (.slice none 0 0)<|sG<|Sy.seq<|sC<|sP (iZ q) ?_
 obtain ⟨b1,hb1⟩:=xE (decide (q<0))
 refine sS (.bool b1) (qls U U U hb1)<|sG ?_
 cases b1
 ·have lb1:=dN hb1
  refine sU<|Sy.skip<|Sy.then_<|Sy.seq<|sC<|sP (iZ q)<|sP (.slice none 0 0)<|sP (.int .i64 0)<|sP (.slice none 0 0)<|sP (.int .i64 0)<|sP (.int .i64 0)<|sS (iZ q) (qsb U U U)<|sP (iZ q)<|sA<|sP (iZ q) ?_
  obtain ⟨b2,hb2⟩:=xE (decide (q>0))
  refine sS (.bool b2) (qgt U U U hb2)<|sG ?_
  cases b2
  ·have lb2:=dN hb2
   refine sU<|Sy.skip<|sB<|sP (.slice none 0 0)<|sP (.slice none 0 0)<|sG<|Sy.ret ?_
   exact Do [] rfl (v:=.slice none 0 0) (.inl (show _=_ by kernel_rfl)) (λ_ hw=>hw) ⟨nilS,Slc.Is.nil _ _,rfl,rfl⟩
  ·have lb2:=dY hb2
   refine sT<|Sy.region<|sP (.slice none 0 0)<|sP (.slice none 0 0)<|sP (.int .i64 0)<|sP (.slice none 0 0)<|sP (iZ q)<|Sy.appendZ kR 51 3 42 _ _ 4 32 CG uy3 EE U U U U dZ _ _ U U q om U om (by simp only [maxLen]; omega) (λgz cz zs hz1 hz2 hz3=>?_)
   refine sP (.slice none 0 0)<|sP (.int .i64 0)<|sS (.slice (pA gz) 0 cz) (Quiet.pure (Ew 51 _ _ gz 0 q cz 0 4 .i64 U U U CG kF (Nat.zero_le _)))<|sP (.slice (pA gz) 0 cz)<|sA<|sP (.slice (pA gz) 0 cz)<|sP (.slice (pA gz) 0 cz)<|sG<|Sy.ret ?_
   exact Do [(gz,42,zs.toArray)] rfl (v:=.slice (pA gz) 0 cz) (.inl (show _=_ by kernel_rfl)) (λ_ hw=>hw) ⟨⟨.slice (pA gz) 0 cz,[(gz,42,zs.toArray)]⟩,Slc.Is.mk' (by simp) (by simp) rfl (by simp) hz1 (Nat.zero_le _) hz3,rfl,rfl⟩
 ·have lb1:=dY hb1
  exact absurd lb1 om
theorem Km (w:World) (T:Option Addr) (N d:Nat) (a:Nat→Option Addr) (n c:Nat→Nat) (f:Nat→Nat→List Value) (hf1:∀ i k,(f i k).length=4) (hf2:∀ i k, ∀ u∈f i k,u.oneCell'=true) (hN:N≤2000000) (hs:BA n N≤2000000) (hnc:∀ i,i<N→n i≤c i) (hlt:Lst w 1 T N (λi=>[.slice (a i) (n i) (c i)])) (hl:∀ i,i<N→Lst w 4 (a i) (n i) (f i)):Calls Tryz.prog 148 #[.slice T N d] w (GetsN w (Cs 42 4 (H6 n f N))):=by
 obtain ⟨gT,oT,hT⟩:=hlt
 refine Sy.enter (args:=[.slice T N d]) Tryz.func148 U kL<|sC<|sP (.slice none 0 0)<|sA<|sP (.int .i64 0)<|sG<|Sy.seq<|sC<|sP (.slice T N d)<|sP (iZ N)<|sP (.int .i64 0)<|sG<|Sy.block<|Sy.loopK N (λk1=>[(0,.slice T N d),(3,iZ ((BA n k1))),(9,.slice T N d),(10,iZ N),(11,iZ k1)]) (λk1=>[]) [] (M:=[]) ac5 kR U (λk1 hk1=>?_)
 refine sC ?_
 obtain ⟨b1,hb1⟩:=xE (decide (k1<N))
 refine sS (.bool b1) (qls U U U hb1)<|sG<|Sy.seq ?_
 cases b1
 ·have lb1:=dN hb1
  refine sU<|Sy.exit<|Sy.then_exit<|Sy.then_exit ?_
  obtain rfl:N=k1:=om
  refine Sy.in_exit<|sB<|sP (iZ ((BA n N)))<|Sy.callN kR 206 #[.slice none 0 0,iZ ((BA n N))] kF (Cs 42 4 []) (λw hw=>Nu w _ om) (λvq Mq hR0=>?_)
  obtain ⟨y0,hy0,rfl,rfl⟩:=hR0
  refine sP (y0.v)<|sG<|Sy.seq<|sC<|sP (.slice T N d)<|sP (iZ N)<|sP (.int .i64 0)<|sG<|Sy.block<|Sy.loopT (Y:=Slc) N (λk1 y1=>[(0,.slice T N d),(6,y1.v),(25,.slice T N d),(26,iZ N),(27,iZ k1)]) (λk1 y1=>[]++(y1.bl++[])) (λk1 y1=>y1.Is 42 4 (H6 n f k1)) y0 hy0 ac5 (λw hw=>by simpa using hw) (λk1 y1 hk1 hh1=>?_)
  refine sC ?_
  obtain ⟨b2,hb2⟩:=xE (decide (k1<N))
  refine sS (.bool b2) (qls U U U hb2)<|sG<|Sy.seq ?_
  cases b2
  ·have lb2:=dN hb2
   refine sU<|Sy.exit<|Sy.then_exit<|Sy.then_exit ?_
   obtain rfl:N=k1:=om
   refine Sy.in_exit<|sB<|sP (y1.v)<|sP (y1.v)<|sG<|Sy.ret ?_
   exact Do (y1.bl) rfl (v:=y1.v) (.inl (show _=_ by kernel_rfl)) (λ_ hw=>by simpa using hw) ⟨y1,hh1,rfl,rfl⟩
  ·have lb2:=dY hb2
   have hsk:BA n k1+n k1≤BA n N:=Cv n (show k1+1≤N by omega)
   refine sT<|Sy.skip<|Sy.then_<|Sy.seq<|Sy.block<|sC<|sS (.pointer (some ⟨gT,oT+k1*1,none⟩)) (Quiet.pure (AJ 29 _ _ _ T gT oT N d k1 1 .i64 (hT om).1 U U U CO kF om))<|sS (.slice (a k1) (n k1) (c k1)) (Quiet.thereOne gT (oT+k1*1) 51 _ _ U kR (hT om).2.1 _ (AU ((hT om).2.2 k1 om) 0 U) CG U)<|sP (.slice (a k1) (n k1) (c k1))<|sG<|Sy.region<|sP (y1.v)<|sP (.slice (a k1) (n k1) (c k1))<|Sy.appendM kR 51 42 _ _ 4 32 CG EE U U U U dZ _ _ U (ys:=(List.range (n k1)).map (f k1)) hh1 kR (λz hz=>by obtain ⟨i,_,rfl⟩:=List.mem_map.1 hz; exact hf1 _ _) (λz hz=>by obtain ⟨i,_,rfl⟩:=List.mem_map.1 hz; exact hf2 _ _) (a k1) (n k1) (c k1) (by rw [List.length_map,List.length_range]) (hnc k1 om) kR (λ_=>From.lst (hl k1 om) (hf1 k1)) (by rw [Eh]; omega) (by rw [Eh]; simp only [maxLen]; omega) (λr1 hr1=>?_)
   refine sP (r1.v)<|Sy.nil<|Sy.in_<|Sy.then_<|Sy.region<|sS (iZ (k1+1)) (qad U U U)<|sP (iZ (k1+1))<|Sy.nil ?_
   exact Sy.againT (r1) om (hr1) ac5 (λw hw=>hw)
 ·have lb1:=dY hb1
  have hsk:BA n k1+n k1≤BA n N:=Cv n (show k1+1≤N by omega)
  refine sT<|Sy.skip<|Sy.then_<|Sy.seq<|Sy.block<|sC<|sS (.pointer (some ⟨gT,oT+k1*1,none⟩)) (Quiet.pure (AJ 29 _ _ _ T gT oT N d k1 1 .i64 (hT om).1 U U U CO kF om))<|sS (.slice (a k1) (n k1) (c k1)) (Quiet.thereOne gT (oT+k1*1) 51 _ _ U kR (hT om).2.1 _ (AU ((hT om).2.2 k1 om) 0 U) CG U)<|sP (.slice (a k1) (n k1) (c k1))<|sA<|sP (iZ ((BA n k1)))<|sP (.slice (a k1) (n k1) (c k1))<|sP (iZ ((n k1)))<|sS (iZ ((BA n k1)+(n k1))) (qad U U U)<|sP (iZ ((BA n k1)+(n k1)))<|sA<|sP (iZ ((BA n k1)+(n k1))) ?_
  obtain ⟨b3,hb3⟩:=xE (decide ((BA n k1)+(n k1)<0))
  refine sS (.bool b3) (qls U U U hb3)<|sG ?_
  cases b3
  ·have lb3:=dN hb3
   refine sU<|Sy.skip<|Sy.in_<|Sy.then_<|Sy.region<|sS (iZ (k1+1)) (qad U U U)<|sP (iZ (k1+1))<|Sy.nil ?_
   exact Sy.againK [] (M:=[]) om ac5 kR U
  ·have lb3:=dY hb3
   exact absurd lb3 om
end Cu
end
section
namespace Cu
open Go.RowKit Sy
def A4 (D:Nat→Nat):Nat→Nat
 | 0=>32
 | k+1=>A4 D k+D k*32
theorem Lk (w:World) (Z:Option Addr) (N zc:Nat) (D:Nat→Nat) (hN:N≤32) (hD:∀ i,i<N→D i≤64) (hlz:Lst w 1 Z N (λk=>[iZ (D k)])):Calls Tryz.prog 150 #[.slice Z N zc] w (Gets w (iZ (A4 D N))):=by
 obtain ⟨gZ,oZ,hZ⟩:=hlz
 refine Sy.enter (args:=[.slice Z N zc]) Tryz.func150 U kL<|sC<|sP (.int .i64 0)<|sA<|sP (.int .i64 32)<|sG<|Sy.seq<|sC<|sP (.slice Z N zc)<|sP (iZ N)<|sP (.int .i64 0)<|sG<|Sy.block<|Sy.loopH N (λk1=>A4 D k1≤32+2048*k1) (λk1=>[(0,.slice Z N zc),(3,iZ ((A4 D k1))),(6,.slice Z N zc),(7,iZ N),(8,iZ k1)]) (λk1=>[]) [] (M:=[]) (Nat.le_refl _) ac5 kR U (λk1 hk1 hh=>?_)
 have hh1:=hh
 refine sC ?_
 obtain ⟨b1,hb1⟩:=xE (decide (k1<N))
 refine sS (.bool b1) (qls U U U hb1)<|sG<|Sy.seq ?_
 cases b1
 ·have lb1:=dN hb1
  refine sU<|Sy.exit<|Sy.then_exit<|Sy.then_exit ?_
  obtain rfl:N=k1:=om
  refine Sy.in_exit<|sB<|sP (iZ ((A4 D N)))<|sP (iZ ((A4 D N)))<|sG<|Sy.ret ?_
  exact rV (iZ ((A4 D N))) U
 ·have lb1:=dY hb1
  have hD1:=hD k1 lb1
  refine sT<|Sy.skip<|Sy.then_<|Sy.seq<|Sy.block<|sC<|sS (.pointer (some ⟨gZ,oZ+k1*1,none⟩)) (Quiet.pure (AJ 131 _ _ _ Z gZ oZ N zc k1 1 .i64 (hZ om).1 U U U EX kF om))<|sS (iZ ((D k1))) (Quiet.thereOne gZ (oZ+k1*1) 3 _ _ U kR (hZ om).2.1 _ (AU ((hZ om).2.2 k1 om) 0 U) uy3 U)<|sP (iZ ((D k1)))<|sG<|Sy.region<|sP (iZ ((A4 D k1)))<|sP (iZ ((D k1)))<|sS (iZ ((D k1)*32)) (qml U U U)<|sS (.int .i64 (((A4 D k1)+((D k1)*32):Nat):Int)) (qad U U U)<|sP (.int .i64 (((A4 D k1)+((D k1)*32):Nat):Int))<|Sy.nil<|Sy.in_<|Sy.then_<|Sy.region<|sS (iZ (k1+1)) (qad U U U)<|sP (iZ (k1+1))<|Sy.nil ?_
  exact Sy.againH [] (M:=[]) om (by show A4 D k1+D k1*32≤_; have:=hD k1 (by omega); omega) ac5 kR U
end Cu
end
section
namespace Cu
open Go.RowKit Sy
def EP (s:Nat→Nat→Nat) (sn:Nat→Nat):Nat→List Nat
 | 0=>[]
 | k+1=>EP s sn k++(List.range (sn k)).map (s k)
theorem Dz (s:Nat→Nat→Nat) (sn:Nat→Nat):∀ k,(EP s sn k).length=BA sn k
 | 0=>rfl
 | k+1=>by
  show (EP s sn k++_).length=BA sn k+sn k
  rw [List.length_append,Dz s sn k,List.length_map,List.length_range]
theorem Ks {s:Nat→Nat→Nat} {sn:Nat→Nat} (h:∀ i k,s i k<K4):∀ k, ∀ x∈EP s sn k,x<K4
 | 0,x,hx=>by cases hx
 | k+1,x,hx=>by
  rcases List.mem_append.1 hx with hx | hx
  ·exact Ks h k x hx
  ·obtain ⟨i,_,rfl⟩:=List.mem_map.1 hx
   exact h _ _
theorem Kr (s:Nat→Nat→Nat) (sn:Nat→Nat):∀ k,H6 sn (λi j=>fws (s i j)) k=(EP s sn k).map fws
 | 0=>rfl
 | k+1=>by
  show H6 sn _ k++_=(EP s sn k++_).map fws
  rw [List.map_append,Kr s sn k,List.map_map]
  rfl
theorem E8 {f g:Nat→Nat}:∀ k,(∀ j,j<k→f j=g j)→Ck f k=Ck g k
 | 0,_=>rfl
 | k+1,h=>by
  show Ck f k++_=Ck g k++_
  rw [E8 k (λj hj=>h j om),h k (Nat.lt_succ_self k)]
theorem G5 (f:Nat→Nat) (a:Nat):∀ b,Ck f (a+b)=Ck f a++Ck (λj=>f (a+j)) b
 | 0=>(List.append_nil _).symm
 | b+1=>by
  show Ck f (a+b)++_=_++(Ck _ b++_)
  rw [G5 f a b,List.append_assoc]
  rfl
def atL (l:List Nat) (j:Nat):Nat:=l.getD j 0
theorem K3 {a b:List Nat} {j:Nat} (h:j<a.length):atL (a++b) j=atL a j:=by unfold atL; rw [List.getD_eq_getElem?_getD,List.getD_eq_getElem?_getD,List.getElem?_append_left h]
theorem Iy {a b:List Nat} {j:Nat}:atL (a++b) (a.length+j)=atL b j:=by unfold atL; rw [List.getD_eq_getElem?_getD,List.getD_eq_getElem?_getD,List.getElem?_append_right (Nat.le_add_right _ _),Nat.add_sub_cancel_left]
theorem Iz {f:Nat→Nat} {n j:Nat} (h:j<n):atL ((List.range n).map f) j=f j:=by unfold atL; rw [List.getD_eq_getElem?_getD,List.getElem?_map,List.getElem?_range h]; rfl
theorem FN (s:Nat→Nat→Nat) (sn:Nat→Nat):∀ k,Ck (atL (EP s sn k)) (BA sn k)=CD s sn k
 | 0=>rfl
 | k+1=>by
  show Ck (atL (EP s sn k++(List.range (sn k)).map (s k))) (BA sn k+sn k)=CD s sn k++Ck (s k) (sn k)
  rw [G5,E8 (g:=atL (EP s sn k)) _ (λj hj=>K3 (by rw [Dz]; exact hj)),FN s sn k,E8 (g:=s k) _ (λj hj=>by
   rw [← Dz s sn k,Iy,Iz hj])]
theorem Q4 (l:List Nat):l.map fws=(List.range l.length).map (λj=>fws (atL l j)):=by
 apply List.ext_getElem
 ·rw [List.length_map,List.length_map,List.length_range]
 ·intro j h1 h2
  rw [List.getElem_map,List.getElem_map,List.getElem_range]
  unfold atL
  rw [List.getD_eq_getElem?_getD,List.getElem?_eq_getElem (by simpa using h1)]
  rfl
theorem S1 {l:List Nat} (h:∀ x∈l,x<K4) (j:Nat):atL l j<K4:=by
 unfold atL
 rw [List.getD_eq_getElem?_getD]
 cases hx:l[j]? with
 | none=>exact L_
 | some x=>exact h x (List.mem_of_getElem? hx)
theorem PW (w:World) (d:List UInt8) (hd:d.length=32) (W:Option Addr) (NW cW:Nat) (sa:Nat→Option Addr) (sn sc:Nat→Nat) (s:Nat→Nat→Nat) (hsc:∀ i k,s i k<K4) (hNW:NW≤4611686018427387904) (hsn9:∀ i,i<NW→sn i≤4611686018427387904) (hlw:Lst w 1 W NW (λi=>[.slice (sa i) (sn i) (sc i)])) (hls:∀ i,i<NW→Lst w 4 (sa i) (sn i) (λk=>fws (s i k))) (hW9:NW≤2000000) (hsum:BA sn NW≤2000000) (hsc9:∀ i,i<NW→sn i≤sc i):Calls Tryz.prog 86 #[AM d W NW cW] w (GetsN w ((λvq Mq=>∃ y:Slc,vq=y.v∧Mq=y.bl∧y.Is 5 1 (Aj (d++CD s sn NW))))):=by
 have hlw0:=hlw
 obtain ⟨gW,oW,hW⟩:=hlw
 refine Sy.enter (args:=[AM d W NW cW]) Tryz.func86 U kL<|sC<|sM 31 (AO d W NW cW).toArray (λg0=>?_)
 refine sP (.slice none 0 0)<|sA<|sP (pT g0 0)<|sP (.slice (pA g0) 32 32)<|Sy.callN kR 147 #[.slice (pA g0) 32 32] kF ((λvq Mq=>∃ y:Slc,vq=y.v∧Mq=y.bl∧y.Is 5 1 (Aj d))) (λw hw=>Lw w g0 0 d 32 32 hd dZ (Nat.le_refl _) dZ (JG (hw.get (i:=0) rfl))) (λvq Mq hR0=>?_)
 obtain ⟨yC,rfl,rfl,hyC⟩:=hR0
 refine Sy.permS (M:=[(g0,31,(AO d W NW cW).toArray)]++(yC.bl++([]))) (by rw [List.append_nil]; exact List.Perm.refl _)<|sP (yC.v)<|sG<|Sy.seq<|sC<|sP (pT g0 32)<|sS (.slice W NW cW) (Quiet.cell 0 g0 32 31 29 (AO d W NW cW).toArray _ _ U kR kR CO U _ (EK hd))<|Sy.callN kR 148 #[.slice W NW cW] kF (Cs 42 4 (H6 sn (λi j=>fws (s i j)) NW)) (λw hw=>Km w W NW cW sa sn sc (λi j=>fws (s i j)) (λ_ _=>rfl) (λ_ _=>C0 _) hW9 hsum hsc9 (hlw0.below hw.below) (λi hi=>(hls i hi).below hw.below)) (λvq Mq hR0=>?_)
 obtain ⟨y0,hy0,rfl,rfl⟩:=hR0
 obtain ⟨lN,hlN⟩:=xE (EP s sn NW)
 obtain ⟨T,hT⟩:=xE (BA sn NW)
 have hTl:lN.length=T:=by rw [hlN,hT]; exact Dz _ _ _
 have hT9:T≤2000000:=by rw [hT]; exact hsum
 have hN4:∀ j,atL lN j<K4:=S1 (by rw [hlN]; exact Ks hsc _)
 rw [Kr, ← hlN,Q4,hTl] at hy0
 refine Sy.permS Sy.end_front<|sS (iZ T) (Quiet.lenR hy0 (by rw [List.length_map,List.length_range]) _ CG U U)<|sP (.int .i64 0)<|sG<|Sy.block<|Sy.loopT (Y:=Slc) T (λk1 y1=>[(1,pT g0 0),(3,y1.v),(12,y0.v),(13,iZ T),(14,iZ k1)]) (λk1 y1=>[(g0,31,(AO d W NW cW).toArray)]++(y0.bl++(y1.bl++([])))) (λk1 y1=>y1.Is 5 1 (Aj (d++Ck (atL lN) k1))) yC (by rw [show d++Ck (atL lN) 0=d from List.append_nil d]; exact hyC) ac5 (λw hw=>hw) (λk1 y1 hk1 hh1=>?_)
 refine sC ?_
 obtain ⟨b1,hb1⟩:=xE (decide (k1<T))
 refine sS (.bool b1) (qls U U U hb1)<|sG<|Sy.seq ?_
 cases b1
 ·have lb1:=dN hb1
  refine sU<|Sy.exit<|Sy.then_exit<|Sy.then_exit ?_
  obtain rfl:T=k1:=om
  refine Sy.in_exit<|sB<|sP (y1.v)<|sP (y1.v)<|sG<|Sy.ret ?_
  exact Do y1.bl U (v:=y1.v) (.inl (show _=_ by kernel_rfl)) (λw hw=>St.parts (ls:=[[(g0,31,(AO d W NW cW).toArray)],y0.bl,y1.bl]) (ms:=[y1.bl]) [[(g0,31,(AO d W NW cW).toArray)],y0.bl] [2,0,1] kR (by rfl) (by rfl) (by simp) hw) ⟨y1,rfl,rfl,by rw [← FN, ← hlN, ← hT]; exact hh1⟩
 ·have lb1:=dY hb1
  obtain ⟨gR,cR2,spR,hv0,hb0,hk1s,hk2s,hk3s⟩:=hy0.open om
  obtain ⟨fL,hfL⟩:∃ f:Nat→List Value,f=λj=>fws (atL lN j):=⟨_,rfl⟩
  rw [← hfL] at hb0
  have hf4:∀ j,(fL j).length=4:=λj=>by rw [hfL]; rfl
  obtain ⟨yv,yb⟩:=y0
  obtain rfl:yv=_:=hv0
  obtain rfl:yb=_:=hb0
  refine Sy.permC (M:=[(g0,31,(AO d W NW cW).toArray),(gR,42,(AH fL T++spR).toArray)]++(y1.bl++([]))) (by exact List.Perm.refl _)<|sT<|Sy.skip<|Sy.then_<|Sy.seq<|Sy.block<|sC<|sS (.pointer (some ⟨gR,0+k1*4,none⟩)) (Quiet.pure (BI 51 _ _ _ gR 0 T cR2 k1 4 .i64 U U U CG kF om))<|sS (fv (atL lN k1)) (Quiet.load 1 gR (0+k1*4) 4 42 42 (AH fL T++spR).toArray _ _ U kR kR Ah U kR _ ((EF (k:=k1) hf4 om U).trans (by rw [hfL]; rfl)) (Dv (k:=k1) hf4 om U))<|sM 42 (fcs 0) (λg1=>?_)
  refine Sy.movT<|sW 2 g1 42 (fcs 0) (fcs (atL lN k1)) (wS 0 42 (fcs (atL lN k1)) U)<|Sy.setT<|sA<|sS (fv (atL lN k1)) (qL 2 g1 0 4 42 42 (fcs (atL lN k1)) U Ah)<|sS (.agg ((AW ((atL lN k1)%Sc.pM)).map bv).toArray) (qF 149 #[fv (atL lN k1)] (λw=>Sc.bytes_any w _ (hN4 _)))<|Sy.make kR 22 (Zl 32).toArray ptr kF (λg2=>?_)
  refine Sy.movT<|Sy.write kR 3 g2 22 (Zl 32).toArray ((AW ((atL lN k1)%Sc.pM)).map bv).toArray kR (Writes.store 0 22 ((AW ((atL lN k1)%Sc.pM)).map bv).toArray _ _ U kR kR (by rw [Cx (AW ((atL lN k1)%Sc.pM)) (AF _)]; kernel_rfl) (by rw [Cx (AW ((atL lN k1)%Sc.pM)) (AF _)]; exact Nat.le_of_ble_eq_true kR) (Er _) (Ge _ _ (by rw [(AF _)]; kernel_rfl)))<|Sy.setT<|sG<|Sy.region<|sP (y1.v)<|sP (.slice (pA g2) 32 32)<|Sy.appendM kR 24 5 _ _ 1 1 Ci Dg U U U U dZ _ _ U (ys:=Aj (AW ((atL lN k1)%Sc.pM))) hh1 kR (Bb _) (BE _) (pA g2) 32 32 (by rw [Am]; exact (AF _)) (Nat.le_refl _) kR (λ_=>From.arr (i:=3) (t:=22) (l:=(AW ((atL lN k1)%Sc.pM))) kR) (by simp only [Am,List.length_append,C5]; omega) (by simp only [Am,List.length_append,C5,maxLen]; omega) (λr1 hr1=>?_)
  refine sP (r1.v)<|Sy.nil<|Sy.in_<|Sy.then_<|Sy.region<|sS (iZ (k1+1)) (qad U U U)<|sP (iZ (k1+1))<|Sy.nil ?_
  exact Sy.againT (r1) om (by rw [show d++Ck (atL lN) (k1+1)=(d++Ck (atL lN) k1)++AW (atL lN k1%Sc.pM) from (List.append_assoc ..).symm,DT]; exact hr1) ac5 (λw hw=>St.parts (ls:=[[(g0,31,(AO d W NW cW).toArray)],[(gR,42,(AH fL T++spR).toArray)],[(g1,42,(fcs (atL lN k1)))],[(g2,22,((AW ((atL lN k1)%Sc.pM)).map bv).toArray)],r1.bl]) (ms:=[[(g0,31,(AO d W NW cW).toArray)],[(gR,42,(AH fL T++spR).toArray)],r1.bl]) [[(g1,42,(fcs (atL lN k1)))],[(g2,22,((AW ((atL lN k1)%Sc.pM)).map bv).toArray)]] [0,1,4,2,3] kR (by rfl) (by rfl) (by rfl) hw)
end Cu
end
section
namespace Cu
open Go.RowKit Sy
def mnZ (D:Nat→Int):Nat→Int
 | 0=>D 0
 | k+1=>min (mnZ D k) (D (k+1))
def mxZ (D:Nat→Int):Nat→Int
 | 0=>D 0
 | k+1=>max (mxZ D k) (D (k+1))
theorem Sg (D:Nat→Int) (a:Int) (k:Nat):a≤mnZ D k↔∀ j,j≤k→a≤D j:=by
 induction k with
 | zero=>exact ⟨λh j hj=>by rw [Nat.le_zero.1 hj]; exact h,λh=>h 0 (Nat.le_refl _)⟩
 | succ k ih =>
  show a≤min (mnZ D k) (D (k+1))↔_
  rw [Int.le_min,ih]
  exact ⟨λh j hj=>(Nat.lt_or_eq_of_le hj).elim (λq=>h.1 j om) (λq=>by rw [q]; exact h.2),λh=>⟨λj hj=>h j om,h _ (Nat.le_refl _)⟩⟩
theorem Se (D:Nat→Int) (a:Int) (k:Nat):mxZ D k≤a↔∀ j,j≤k→D j≤a:=by
 induction k with
 | zero=>exact ⟨λh j hj=>by rw [Nat.le_zero.1 hj]; exact h,λh=>h 0 (Nat.le_refl _)⟩
 | succ k ih =>
  show max (mxZ D k) (D (k+1))≤a↔_
  rw [Int.max_le,ih]
  exact ⟨λh j hj=>(Nat.lt_or_eq_of_le hj).elim (λq=>h.1 j om) (λq=>by rw [q]; exact h.2),λh=>⟨λj hj=>h j om,h _ (Nat.le_refl _)⟩⟩
section
variable {F:AN} {o:Oper}
theorem N3 (x y:Operand) {ts:Array TypeId} (k:IntKind) (a b c:Int) (ho:o.op=.call { callee:=.builtin .min,args:=#[x,y],argTypes:=ts }) (hx:evF F x=.int k a) (hy:evF F y=.int k b) (h:min a b=c) (w:World):(execOp (evF F) o).run Tryz.prog w=.ok (.value (.int k c)) w:=by
 have e:(if b<a then b else a)=c:=by split <;> omega
 unfold execOp
 simp [ho,hx,hy,resolve,invoke,builtin,Builtin.min_,Builtin.min2,Sem.run_bind,Result.andThen]
 omega
theorem N4 (x y:Operand) {ts:Array TypeId} (k:IntKind) (a b c:Int) (ho:o.op=.call { callee:=.builtin .max,args:=#[x,y],argTypes:=ts }) (hx:evF F x=.int k a) (hy:evF F y=.int k b) (h:max a b=c) (w:World):(execOp (evF F) o).run Tryz.prog w=.ok (.value (.int k c)) w:=by
 have e:(if a<b then b else a)=c:=by split <;> omega
 unfold execOp
 simp [ho,hx,hy,resolve,invoke,builtin,Builtin.max_,Builtin.max2]
 omega
end
theorem PD (w:World) (A:Option Addr) (M c:Nat) (D:Nat→Int) (hN:M+1≤4611686018427387904) (hlk:Lst w 1 A (M+1) (λk=>[.int .i64 (D k)])):Calls Tryz.prog 153 #[.slice A (M+1) c] w (Gets w (.int .i64 (mnZ D M))):=by
 obtain ⟨gK,oK,hT⟩:=hlk
 refine Sy.enter (args:=[.slice A (M+1) c]) Tryz.func153 U kL<|sC<|sP (.int .i64 0)<|sG<|Sy.seq<|sC<|sP (.slice A (M+1) c)<|sP (iZ ((M+1))) ?_
 obtain ⟨b1,hb1⟩:=xE (decide ((M+1)<1))
 refine sS (.bool b1) (qls U U U hb1)<|sG ?_
 cases b1
 ·have lb1:=dN hb1
  refine sU<|Sy.skip<|sB<|sP (.slice A (M+1) c)<|sS (.pointer (some ⟨gK,oK+0*1,none⟩)) (Quiet.pure (AJ 131 _ _ _ A gK oK (M+1) c 0 1 .i64 (hT om).1 U U U EX kF om))<|sS (.int .i64 (D 0)) (Quiet.thereOne gK (oK+0*1) 3 _ _ U kR (hT om).2.1 _ (AU ((hT om).2.2 0 om) 0 U) uy3 U)<|sP (.int .i64 (D 0))<|sG<|Sy.seq<|sC<|sP (.int .i64 1)<|sG<|Sy.block<|Sy.loopK M (λk1=>[(0,.slice A (M+1) c),(3,.int .i64 (mnZ D k1)),(4,iZ (k1+1))]) (λk1=>[]) [] (M:=[]) ac3 kR U (λk1 hk1=>?_)
  refine Sy.seq<|sC<|sP (iZ (k1+1))<|sP (.slice A (M+1) c)<|sP (iZ ((M+1))) ?_
  obtain ⟨b2,hb2⟩:=xE (decide (k1+1<(M+1)))
  refine sS (.bool b2) (qls U U U hb2)<|sG ?_
  cases b2
  ·have lb2:=dN hb2
   refine sU<|Sy.exit<|Sy.then_exit<|Sy.then_exit ?_
   obtain rfl:M=k1:=om
   refine Sy.in_exit<|sB<|sP (.int .i64 (mnZ D M))<|sP (.int .i64 (mnZ D M))<|sG<|Sy.ret ?_
   rw [show (.int .i64 (mnZ D M):Value)=.int .i64 (mnZ D M) from rfl]
   exact rV (.int .i64 (mnZ D M)) U
  ·have lb2:=dY hb2
   refine sT<|Sy.skip<|Sy.then_<|Sy.seq<|Sy.block<|Sy.region<|sP (.int .i64 (mnZ D k1))<|sP (.slice A (M+1) c)<|sP (iZ (k1+1))<|sS (.pointer (some ⟨gK,oK+(k1+1)*1,none⟩)) (Quiet.pure (AJ 131 _ _ _ A gK oK (M+1) c (k1+1) 1 .i64 (hT om).1 U U U EX kF om))<|sS (.int .i64 (D (k1+1))) (Quiet.thereOne gK (oK+(k1+1)*1) 3 _ _ U kR (hT om).2.1 _ (AU ((hT om).2.2 (k1+1) om) 0 U) uy3 U)<|sS (.int .i64 (mnZ D (k1+1))) (Quiet.pure (N3 _ _ .i64 (mnZ D k1) (D (k1+1)) (mnZ D (k1+1)) U U U U))<|sP (.int .i64 (mnZ D (k1+1)))<|Sy.nil<|Sy.in_<|Sy.then_<|Sy.region<|sP (iZ (k1+1))<|sS (iZ ((k1+1)+1)) (qad U U U)<|sP (iZ ((k1+1)+1))<|Sy.nil ?_
   exact Sy.againK [] (M:=[]) om ac3 kR U
 ·have lb1:=dY hb1
  exact absurd lb1 om
theorem PG (w:World) (A:Option Addr) (M c:Nat) (D:Nat→Int) (hN:M+1≤4611686018427387904) (hlk:Lst w 1 A (M+1) (λk=>[.int .i64 (D k)])):Calls Tryz.prog 154 #[.slice A (M+1) c] w (Gets w (.int .i64 (mxZ D M))):=by
 obtain ⟨gK,oK,hT⟩:=hlk
 refine Sy.enter (args:=[.slice A (M+1) c]) Tryz.func154 U kL<|sC<|sP (.int .i64 0)<|sG<|Sy.seq<|sC<|sP (.slice A (M+1) c)<|sP (iZ ((M+1))) ?_
 obtain ⟨b1,hb1⟩:=xE (decide ((M+1)<1))
 refine sS (.bool b1) (qls U U U hb1)<|sG ?_
 cases b1
 ·have lb1:=dN hb1
  refine sU<|Sy.skip<|sB<|sP (.slice A (M+1) c)<|sS (.pointer (some ⟨gK,oK+0*1,none⟩)) (Quiet.pure (AJ 131 _ _ _ A gK oK (M+1) c 0 1 .i64 (hT om).1 U U U EX kF om))<|sS (.int .i64 (D 0)) (Quiet.thereOne gK (oK+0*1) 3 _ _ U kR (hT om).2.1 _ (AU ((hT om).2.2 0 om) 0 U) uy3 U)<|sP (.int .i64 (D 0))<|sG<|Sy.seq<|sC<|sP (.int .i64 1)<|sG<|Sy.block<|Sy.loopK M (λk1=>[(0,.slice A (M+1) c),(3,.int .i64 (mxZ D k1)),(4,iZ (k1+1))]) (λk1=>[]) [] (M:=[]) ac3 kR U (λk1 hk1=>?_)
  refine Sy.seq<|sC<|sP (iZ (k1+1))<|sP (.slice A (M+1) c)<|sP (iZ ((M+1))) ?_
  obtain ⟨b2,hb2⟩:=xE (decide (k1+1<(M+1)))
  refine sS (.bool b2) (qls U U U hb2)<|sG ?_
  cases b2
  ·have lb2:=dN hb2
   refine sU<|Sy.exit<|Sy.then_exit<|Sy.then_exit ?_
   obtain rfl:M=k1:=om
   refine Sy.in_exit<|sB<|sP (.int .i64 (mxZ D M))<|sP (.int .i64 (mxZ D M))<|sG<|Sy.ret ?_
   rw [show (.int .i64 (mxZ D M):Value)=.int .i64 (mxZ D M) from rfl]
   exact rV (.int .i64 (mxZ D M)) U
  ·have lb2:=dY hb2
   refine sT<|Sy.skip<|Sy.then_<|Sy.seq<|Sy.block<|Sy.region<|sP (.int .i64 (mxZ D k1))<|sP (.slice A (M+1) c)<|sP (iZ (k1+1))<|sS (.pointer (some ⟨gK,oK+(k1+1)*1,none⟩)) (Quiet.pure (AJ 131 _ _ _ A gK oK (M+1) c (k1+1) 1 .i64 (hT om).1 U U U EX kF om))<|sS (.int .i64 (D (k1+1))) (Quiet.thereOne gK (oK+(k1+1)*1) 3 _ _ U kR (hT om).2.1 _ (AU ((hT om).2.2 (k1+1) om) 0 U) uy3 U)<|sS (.int .i64 (mxZ D (k1+1))) (Quiet.pure (N4 _ _ .i64 (mxZ D k1) (D (k1+1)) (mxZ D (k1+1)) U U U U))<|sP (.int .i64 (mxZ D (k1+1)))<|Sy.nil<|Sy.in_<|Sy.then_<|Sy.region<|sP (iZ (k1+1))<|sS (iZ ((k1+1)+1)) (qad U U U)<|sP (iZ ((k1+1)+1))<|Sy.nil ?_
   exact Sy.againK [] (M:=[]) om ac3 kR U
 ·have lb1:=dY hb1
  exact absurd lb1 om
def szZ (N:Nat) (D:Nat→Int):Bool:=decide (1≤N) && (decide (N≤32) && (decide (mnZ D (N - 1) ≥ 1) && decide (mxZ D (N - 1)≤64)))
theorem JA (N:Nat) (D:Nat→Int):szZ N D=true↔1≤N∧N≤32∧∀ j,j<N→1≤D j∧D j≤64:=by
 unfold szZ
 simp only [Bool.and_eq_true,decide_eq_true_eq,ge_iff_le,Sg,Se]
 exact ⟨λ⟨a,b,c,d⟩=>⟨a,b,λj hj=>⟨c j om,d j om⟩⟩,λ⟨a,b,c⟩=>⟨a,b,λj hj=>(c j om).1,λj hj=>(c j om).2⟩⟩
theorem TL {N:Nat} {D:Nat→Int} (h:N<1):szZ N D=false:=by unfold szZ; rw [decide_eq_false (by omega:¬ 1≤N)]; rfl
theorem TK {N:Nat} {D:Nat→Int} (h:N>32):szZ N D=false:=by unfold szZ; rw [decide_eq_false (by omega:¬ N≤32),Bool.false_and,Bool.and_false]
theorem TJ {N:Nat} {D:Nat→Int} (h:¬ (mnZ D (N - 1) ≥ 1)):szZ N D=false:=by unfold szZ; rw [decide_eq_false h,Bool.false_and,Bool.and_false,Bool.and_false]
theorem TI {N:Nat} {D:Nat→Int} (h1:¬ N<1) (h2:¬ N>32) (h3:mnZ D (N - 1) ≥ 1):szZ N D=decide (mxZ D (N - 1)≤64):=by
 unfold szZ
 rw [decide_eq_true (by omega:1≤N),decide_eq_true (by omega:N≤32),decide_eq_true h3,Bool.true_and,Bool.true_and,Bool.true_and]
theorem Nq (w:World) (A:Option Addr) (N c:Nat) (D:Nat→Int) (h1:1≤N) (hN:N≤4611686018427387904) (hlk:Lst w 1 A N (λk=>[.int .i64 (D k)])):Calls Tryz.prog 153 #[.slice A N c] w (Gets w (.int .i64 (mnZ D (N - 1)))):=by
 have e:N - 1+1=N:=om
 have q:=PD w A (N - 1) c D om (by rw [e]; exact hlk)
 rwa [e] at q
theorem Nr (w:World) (A:Option Addr) (N c:Nat) (D:Nat→Int) (h1:1≤N) (hN:N≤4611686018427387904) (hlk:Lst w 1 A N (λk=>[.int .i64 (D k)])):Calls Tryz.prog 154 #[.slice A N c] w (Gets w (.int .i64 (mxZ D (N - 1)))):=by
 have e:N - 1+1=N:=om
 have q:=PG w A (N - 1) c D om (by rw [e]; exact hlk)
 rwa [e] at q
theorem Jh (w:World) (A:Option Addr) (N c:Nat) (D:Nat→Int) (hN:N≤4611686018427387904) (hlk:Lst w 1 A N (λk=>[.int .i64 (D k)])):Calls Tryz.prog 90 #[.slice A N c] w (Gets w (.bool (szZ N D))):=by
 have hlk0:=hlk
 obtain ⟨gK,oK,hT⟩:=hlk
 refine Sy.enter (args:=[.slice A N c]) Tryz.func90 U kL<|sC<|sP (.bool false)<|sG<|Sy.seq<|sC<|sP (.slice A N c)<|sP (iZ N) ?_
 obtain ⟨b1,hb1⟩:=xE (decide (N<1))
 refine sS (.bool b1) (qls U U U hb1)<|sP (.bool b1) ?_
 cases b1
 ·have lb1:=dN hb1
  refine sP (.slice A N c)<|sP (iZ N) ?_
  obtain ⟨b2,hb2⟩:=xE (decide (N>32))
  refine sS (.bool b2) (qgt U U U hb2)<|sP (.bool b2)<|sG ?_
  cases b2
  ·have lb2:=dN hb2
   refine sU<|Sy.skip<|sB<|sP (.slice A N c)<|sS (.int .i64 (mnZ D (N - 1))) (Quiet.callS 153 #[.slice A N c] kF (λw hw=>Nq w A N c D om hN (hlk0.below hw.below))) ?_
   obtain ⟨b3,hb3⟩:=xE (decide ((mnZ D (N - 1)) ≥ 1))
   refine sS (.bool b3) (Quiet.pure (AV .geq _ _ _ .i64 _ _ _ U U U (EC _ _ _ _ _ hb3.symm)))<|sP (.bool b3) ?_
   cases b3
   ·have lb3:=dN hb3
    refine sN<|sN<|sN<|sP (.bool false)<|sP (.bool false)<|sG<|Sy.ret ?_
    rw [show (.bool (szZ N D):Value)=.bool false from by rw [TJ lb3]]
    exact rV (.bool false) rfl
   ·have lb3:=dY hb3
    refine sP (.slice A N c)<|sS (.int .i64 (mxZ D (N - 1))) (Quiet.callS 154 #[.slice A N c] kF (λw hw=>Nr w A N c D om hN (hlk0.below hw.below))) ?_
    obtain ⟨b4,hb4⟩:=xE (decide ((mxZ D (N - 1))≤64))
    refine sS (.bool b4) (Quiet.pure (AV .leq _ _ _ .i64 _ _ _ U U U (Ml _ _ _ _ _ hb4.symm)))<|sP (.bool b4)<|sP (.bool b4)<|sG<|Sy.ret ?_
    rw [show (.bool (szZ N D):Value)=.bool b4 from by rw [TI lb1 lb2 lb3, ← hb4]]
    exact rV (.bool b4) rfl
  ·have lb2:=dY hb2
   refine sT<|sC<|sP (.bool false)<|sG<|Sy.ret<|Sy.then_ret ?_
   rw [show (.bool (szZ N D):Value)=.bool false from by rw [TK lb2]]
   exact rV (.bool false) rfl
 ·have lb1:=dY hb1
  refine sN<|sN<|sN<|sP (.bool true)<|sG<|sT<|sC<|sP (.bool false)<|sG<|Sy.ret<|Sy.then_ret ?_
  rw [show (.bool (szZ N D):Value)=.bool false from by rw [TL lb1]]
  exact rV (.bool false) rfl
end Cu
end
section
namespace Sy
open Go.RowKit
section
variable {P:Program} {w0 fz0:World} {n:Nat} {Q:Exit→Act→World→Prop} {F:AN} {L:AB}
def BPY {α Y:Type} (w0 fz:World) (l:Nat) (HI:List α→Y→Prop) (LL:List α→Y→AB) (XR:List α→Y→AB) (HX:List α→Y→Prop) (pre:List α):Exit→Act→World→Prop
 | .normal,_,w=>∃ y,HI pre y∧St (rb w0 fz l) w (LL pre y)
 | .ret,_,w=>∃ y,HX pre y∧St (rb w0 fz l) w (XR pre y)
 | _,_,_=>False
def APY (w0 fz:World) (l n:Nat) (FA:AN) (LP:AB):Exit→Act→World→Prop
 | .normal,a,w=>Fr [] a n FA∧St (rb w0 fz l) w LP
 | _,_,_=>False
theorem rangeY {α Y:Type} {g:Operand} {ps:Array Tmp} {assign body:Code} (gf:Nat) (lb:Array Value) (hgi:inF F g=true) (hg:evF F g=.func (.func gf) #[] lb) (eg:∀ args w,(callFunc gf args).run P w=.ok (.enter gf args) w)
  (encs:α→Array Value) (kl:AB) (S Sp:List α→Prop) (N:Nat) (hps:∀ x,(encs x).size=ps.size) (hpn:∀ p∈ps.toList,p<n)
  (HI:List α→Y→Prop) (LL XR:List α→Y→AB) (HX:List α→Y→Prop) (y0:Y) (hI0:HI [] y0) (h0:∀ w,St ⟨w0,fz0,[],Fence.wide,9⟩ w L→St ⟨w0,fz0,[],Fence.wide,9⟩ w (LL [] y0))
  (hseq:∀ w,St ⟨w0,fz0,[],Fence.wide,9⟩ w L→∃ wk,Below wk.heap.size wk w∧SeqStopsK Fence.wide 8 P gf lb encs (KpL w0.heap.size kl) S Sp N wk)
  (hkl:∀ p∈kl, ∀ pre y,p∈LL pre y) (FA:α→AN)
  (hassign:∀ l fz pre y x,wpC P (rb w0 fz l) n (APY w0 fz l n (FA x) (LL pre y)) (JJ F ps (encs x)) (LL pre y) assign)
  (hbody:∀ l fz pre y x,pre.length<N→HI pre y→wpC P (rb w0 fz l) n (BPY w0 fz l HI LL XR HX (pre++[x])) (FA x) (LL pre y) body)
  (hdone:∀ D fz xs y,S xs→HI xs y→w0.heap.size≤D→fz.heap[D]? = some (.deferred (some []))→X (ab w0 fz D) n Q F (LL xs y) .normal)
  (hstop:∀ D fz pre y,Sp pre→HX pre y→w0.heap.size≤D→fz.heap[D]? = some (.deferred (some []))→X (ab w0 fz D) n Q F (XR pre y) .ret) :
  wpC P ⟨w0,fz0,[],Fence.wide,9⟩ n Q F L (.rangeFunc g ps assign body):=by
 intro a w ha hw
 obtain ⟨wk,hbk,hsq⟩:=hseq w hw
 have hsz:fz0.heap.size≤w.heap.size:=hw.size
 have hsz0:w0.heap.size≤w.heap.size:=hw.below.size
 have had:a.defers=[]:=ha.1
 have hK:∀ {W W':World} {L0 L1:AB} {pre':List α} {y':Y} {l:Nat},St ⟨w0,fz0,[],Fence.wide,9⟩ W L0→St (rb w0 W l) W' L1→(LL pre' y').Sublist L1→KpL w0.heap.size kl W W':=λ{W W' L0 L1 pre' y' l} h1 h2 hs =>
  ⟨h1.between h2,λp hp _=>by
   exact (h2.blk _ _ _ (hs.subset (hkl p hp pre' y'))).2⟩
 have hKX:∀ {W W':World} {L0 L1:AB} {l:Nat},St ⟨w0,fz0,[],Fence.wide,9⟩ W L0→St (rb w0 W l) W' L1→(∀ p∈kl,p∈L1)→KpL w0.heap.size kl W W':=λ{W W' L0 L1 l} h1 h2 hs =>
  ⟨h1.between h2,λp hp _=>by
   exact (h2.blk _ _ _ (hs p hp)).2⟩
 refine wpIn_rangeFunc_ownH (F:=Fence.wide) (n:=9) rfl om (gf:=gf) (lb:=lb) ((ha.eval hgi).trans hg) trivial eg (encs:=encs) (Kp:=KpL w0.heap.size kl) (S:=S) (Sp:=Sp) (N:=N) (w0:=wk) hsq KpL.trans
  (λW l o o' hl ho hc _=>KpL.put om ho hc) hbk hps
  (λpre W=>∃ y,HI pre y∧St ⟨w0,fz0,[],Fence.wide,9⟩ W (LL pre y)) (λc pre W=>c=.ret∧∃ y,HX pre y∧St ⟨w0,fz0,[],Fence.wide,9⟩ W (XR pre y))
  (λpre X Y row ⟨y,hi,hs⟩ hg hr=>⟨y,hi,St.own hs hsz hsz0 hg hr⟩) (λc pre X Y row ⟨hc,y,hi,hs⟩ hg hr=>⟨hc,y,hi,St.own hs hsz hsz0 hg hr⟩) ⟨y0,hI0,h0 w hw⟩
  (λx a' W=>Fr [] a' n (FA x))
  (λx a' _ X Y row hs hg hr=>hs) ?_ ?_ ?_ ?_
 ·-- the loop variables
  intro l pre x W K ⟨y,hH,hI⟩ hk
  have hfr:Fr [] { tmps:=(ps.zip (encs x)).foldl (λt (p,v)=>t.setIfInBounds p v) a.tmps,defers:=[] } n (JJ F ps (encs x)):=by
   have h1:Fr [] { tmps:=a.tmps,defers:=[] } n F:=⟨rfl,ha.2.1,ha.2.2⟩
   have h2:=Fr.round (ps.toList.zip (encs x).toList) (λy hy=>hpn y.1 (List.of_mem_zip hy).1) h1
   have e:(ps.zip (encs x)).foldl (λt (p,v)=>t.setIfInBounds p v) a.tmps=(ps.toList.zip (encs x).toList).foldl (λt x=>t.setIfInBounds x.1 x.2) a.tmps:=by
    rw [← Array.foldl_toList,Array.toList_zip]
   rw [e]
   exact h2
  refine wpIn_mono (hassign l W pre y x _ W hfr (hI.refix _ _ _)) λe a' W' hq=>?_
  cases e with
  | normal =>
   obtain ⟨h1,h2⟩:=hq
   exact hk a' W' (hI.keeps h2 hsz0) (hK hI h2 (List.Sublist.refl _)) ⟨y,hH,hI.back h2 _ _ _⟩ h1
  | _=>exact hq.elim
 ·-- the body
  intro l pre x a' W hl _ ⟨y,hH,hI⟩ h1 hlen
  refine wpIn_mono (hbody l W pre y x hlen hH a' W h1 (hI.refix _ _ _)) λe a3 W3 hq=>?_
  cases e with
  | normal =>
   obtain ⟨y',hH',hs'⟩:=hq
   exact ⟨hI.keeps hs' hsz0,hK hI hs' (List.Sublist.refl _),y',hH',hI.back hs' _ _ _⟩
  | ret =>
   obtain ⟨y',hH',hs'⟩:=hq
   exact ⟨hI.keeps hs' hsz0,rfl,y',hH',hI.back hs' _ _ _⟩
  | _=>exact hq.elim
 ·intro D xs W hD hS ⟨y,hH,hI⟩ hd
  exact hdone D W xs y hS hH (Nat.le_trans hsz0 hD) hd _ W ⟨by simp [had],ha.2.1,ha.2.2⟩ (hI.refix _ _ _)
 ·rintro D c pre W hD hS ⟨rfl,y,hx,hI⟩ hd
  exact wpIn_ret (hstop D W pre y hS hx (Nat.le_trans hsz0 hD) hd _ W ⟨by simp [had],ha.2.1,ha.2.2⟩ (hI.refix _ _ _))
theorem bpY {α Y:Type} {l:Nat} {HI:List α→Y→Prop} {LL XR:List α→Y→AB} {HX:List α→Y→Prop} {pre:List α} (y:Y) (hi:HI pre y) (hL:∀ w,St (rb w0 fz0 l) w L→St (rb w0 fz0 l) w (LL pre y)):X (rb w0 fz0 l) n (BPY w0 fz0 l HI LL XR HX pre) F L .normal:=λ_ w _ hw=>⟨y,hi,hL w hw⟩
theorem bpYR {α Y:Type} {l:Nat} {HI:List α→Y→Prop} {LL XR:List α→Y→AB} {HX:List α→Y→Prop} {pre:List α} (y:Y) (hi:HX pre y) (hL:∀ w,St (rb w0 fz0 l) w L→St (rb w0 fz0 l) w (XR pre y)):X (rb w0 fz0 l) n (BPY w0 fz0 l HI LL XR HX pre) F L .ret:=λ_ w _ hw=>⟨y,hi,hL w hw⟩
theorem apY {l:Nat} {FA:AN} {LP:AB} (hF:∀ p∈FA,F.lookup p.1=some p.2) (hL:∀ w,St (rb w0 fz0 l) w L→St (rb w0 fz0 l) w LP):X (rb w0 fz0 l) n (APY w0 fz0 l n FA LP) F L .normal:=λ_ w ha hw=>⟨ha.all hF,hL w hw⟩
theorem retMG2 {w1 fz:World} {D:Nat} {fn:Func} {r s:ResultVar} {v u:Value} {R:Value→AB→Prop} (M:AB) (hr:fn.results=#[r,s]) (h:Has P F L r v) (k:Has P F L s u) (hM:∀ w,St (Base.of w1) w L→St (Base.of w1) w M) (hR:R (.tuple #[v,u]) M) (hD:w1.heap.size≤D) (hm:fz.heap[D]? = some (.deferred (some []))):X (ab w1 fz D) n (bodyPostM Fence.wide 9 P fn (GetsN w1 R)) F L .ret:=λa w ha hw=>by
 obtain ⟨e1,e2⟩:=St.unmark (P:=P) hw hD hm
 have hd:a.defers=[Sj D]:=ha.1
 show LeavesInM Fence.wide 9 P fn a.tmps (GetsN w1 R) a.defers .returning w
 rw [hd]
 refine ⟨by simp,.inl ⟨D,_,rfl,e1,?_⟩⟩
 refine ⟨.tuple #[v,u],?_,_,M,rfl,hR,e2.below,λg t cs hm=>(hM _ e2).blk g t cs hm,(hM _ e2).apart⟩
 rcases Res.run h ha e2 with ⟨t,rfl,f1⟩ | ⟨t,ty,ad,rfl,f1,f2⟩ <;> rcases Res.run k ha e2 with ⟨t',rfl,g1⟩ | ⟨t',ty',ad',rfl,g1,g2⟩ <;> simp [results,Result.andThen, *]
theorem hasC {t:Tmp} {ty:TypeId} {v:Value} {d:TypeDesc} (g i:Nat) (cs:Array Value) (h3:P.underlying ty=some d) (h1:F.lookup t=some (pT g 0):=by kernel_rfl) (h2:L[i]? = some (g,ty,cs):=by kernel_rfl) (h4:d.isRow=false:=by rfl) (h5:cs[0]? = some v:=by kernel_rfl):Has P F L (.cell t ty) v:=.inr ⟨t,ty,rfl,g,i,ty,cs,d,h1,h2,h3,h4,h5⟩
end
end Sy
end
section
namespace Cu
open Go.RowKit Sy
def Pm (b off m c:Nat):Value:=.slice (some ⟨b,off+32*c*1,none⟩) (szC m c) (szC m c)
def Pn (b off m:Nat) {N:Nat} (x:Fin N):Array Value:=#[Pm b off m x.val]
theorem Lx (w : World) (A : Option Addr) (m cap : Nat) :
    Calls Tryz.prog 207 #[.slice A m cap,.int .i64 32] w (GetsN w λv M=>∃ g1 g2,v=.func (.func 243) #[] #[pT g1 0,pT g2 0]∧M=[(g1,24,#[.slice A m cap]),(g2,3,#[.int .i64 32])]):=by
  go_enter Tryz.func207,Tryz.ntmps207
  go_wp2
  go_ret
  refine ⟨_,_,rfl,⟨_,_,rfl,rfl⟩,Af w _ _,λg t cs hm=>?_,?_⟩
  · simp only [List.mem_cons,List.not_mem_nil,or_false,Prod.mk.injEq] at hm
    rcases hm with ⟨rfl,rfl,rfl⟩ | ⟨rfl,rfl,rfl⟩
    · exact ⟨Nat.le_refl _,(Blk.new w _ _).alloc _⟩
    · exact ⟨by omega,Aa w _ _ _⟩
  · simp
theorem Ly (n l Bs Bn n₀ b off m cap N : Nat) (hN0 : N = (m + 31) / 32) (hm : m ≤ cap) (hm2 : m ≤ 4611686018427387904) (J Jx : List (Fin N) → World → Prop) (W : World) (hJ : AbidesFrom W.heap.size J) (hJx : AbidesFrom W.heap.size Jx)
    (hY:∀ pre x W1,J pre W1→pre.length<N→YieldAt Fence.wide (n - 1) Tryz.prog l (Pn b off m x) W1 λe W'=>(e=.returned (.bool true)∧J (pre++[x]) W'∧KpL n₀ [(Bs,24,#[.slice (some ⟨b,off,none⟩) m cap]),(Bn,3,#[.int .i64 32])] W1 W')∨(e=.returned (.bool false)∧Jx (pre++[x]) W'))
    (hS:Blk W Bs 24 #[.slice (some ⟨b,off,none⟩) m cap]) (hN:Blk W Bn 3 #[.int .i64 32]) (h0:J [] W) :
    CallsIn Fence.wide n Tryz.prog 243 #[.func (.yield l) #[] #[],pT Bs 0,pT Bn 0] W λe W'=>(∃ v,e=.returned v)∧((∃ ys:List (Fin N),ys.map (·.1)=List.range N∧J ys W')∨(∃ pre:List (Fin N),(∃ k,k≤N∧pre.map (·.1)=List.range k)∧Jx pre W')):=by
  refine Sy.enterP (args:=[.func (.yield l) #[] #[],pT Bs 0,pT Bn 0]) Tryz.func243 U kL<|sC<|sP (.int .i64 0)<|sG<|Sy.block<|Sy.loopP N (λk1=>[(0,.func (.yield l) #[] #[]),(1,pT Bs 0),(2,pT Bn 0),(4,iZ (32*k1))]) (λk1 w=>∃ pre:List (Fin N),pre.map (·.1)=List.range k1∧J pre w∧Blk w Bs 24 #[.slice (some ⟨b,off,none⟩) m cap]∧Blk w Bn 3 #[.int .i64 32]) ac4 (λw hg=>⟨[],rfl,BJ hJ h0 hg,hg.blk hS,hg.blk hN⟩) (λk1 wr hk1 hz=>?_)
  clear hS hN
  obtain ⟨pre,hpre,hj,hS,hN⟩:=hz
  have hlen:pre.length=k1:=by have:=congrArg List.length hpre; rwa [List.length_map,List.length_range] at this
  refine Sy.seq<|sC<|sP (iZ (32*k1))<|sS (.slice (some ⟨b,off,none⟩) m cap) (Quiet.thereOne Bs 0 24 _ _ U kR hS.lt _ (hS.cell 0) Ci U)<|sP (iZ m) ?_
  obtain ⟨b1,hb1⟩:=xE (decide (32*k1<m))
  refine sS (.bool b1) (qls U U U hb1)<|sG ?_
  cases b1
  · have lb1:=dN hb1
    refine sU<|Sy.exit<|Sy.then_exit<|Sy.then_exit ?_
    obtain rfl:N=k1:=om
    refine Sy.in_exit ?_
    exact Sy.retP U (λv w3 hg=>⟨⟨_,rfl⟩,.inl ⟨pre,hpre,BJ hJ hj hg⟩⟩) (.inr U)
  · have lb1 : 32 * k1 < m := of_decide_eq_true hb1.symm
    refine sT<|Sy.skip<|Sy.then_<|Sy.seq<|Sy.block<|Sy.seq<|Sy.regionD (λj=>false) kR<|sD 0 U (iZ 32) (Quiet.thereOne Bn 0 3 _ _ U kR hN.lt _ (hN.cell 0) uy3 U)<|sD 1 U (.slice (some ⟨b,off,none⟩) m cap) (Quiet.thereOne Bs 0 24 _ _ U kR hS.lt _ (hS.cell 0) Ci U)<|sZ 2 U (iZ (32*k1))<|sD 3 U (.slice (some ⟨b,off+(32*k1)*1,none⟩) (m - (32*k1)) (cap - (32*k1))) (Quiet.pure (Hy _ _ _ b off m cap (32*k1) 1 .i64 U U U kR kF om om))<|sZ 4 U (.int .i64 (((m - (32*k1)):Nat):Int)) ?_
    obtain ⟨sz,hsz⟩:=xE (szC m k1)
    have hs:0<sz∧32*k1+sz≤m:=by rw [hsz]; unfold szC; omega
    refine sD 5 U (iZ sz) (Quiet.pure (Hz _ _ .i64 32 (m - (32*k1)) sz U U U (by rw [hsz]; unfold szC; omega)))<|sZ 6 U (iZ sz)<|sI<|Sy.seq ?_
    have hx:k1<N:=om
    refine Sy.regionY 10 (by rintro ⟨_,_,⟨_,hv⟩,_⟩; cases hv) kR<|sP (.func (.yield l) #[] #[])<|sS (.slice (some ⟨b,off,none⟩) m cap) (Quiet.thereOne Bs 0 24 _ _ rfl kR hS.lt _ (hS.cell 0) Ci rfl)<|sP (iZ (32*k1))<|sP (iZ (32*k1))<|sP (iZ sz)<|sS (iZ ((32*k1)+sz)) (qad rfl rfl rfl)<|sP (iZ (32*k1))<|sP (iZ sz)<|sS (iZ ((32*k1)+sz)) (qad rfl rfl rfl)<|sS (.slice (some ⟨b,off+(32*k1)*1,none⟩) (((32*k1)+sz) - (32*k1)) (((32*k1)+sz) - (32*k1))) (Quiet.pure (Kc _ _ _ _ _ b off m cap (32*k1) ((32*k1)+sz) ((32*k1)+sz) 1 .i64 .i64 .i64 rfl rfl rfl rfl rfl kR kF (by have:=hs; omega) (by have:=hs; omega) (by have:=hs; omega) (by have:=hs; omega)))<|Sy.nil<|Sy.yieldX (ro := none) rfl (by rintro ⟨_, _, ⟨_, hv⟩, _⟩; cases hv) kR kR l #[.slice (some ⟨b, off + (32 * k1) * 1, none⟩) (((32 * k1) + sz) - (32 * k1)) (((32 * k1) + sz) - (32 * k1))] kF (fun e W' => (e = .returned (.bool true) ∧ J (pre ++ [⟨k1, hx⟩]) W' ∧ Blk W' Bs 24 #[.slice (some ⟨b, off, none⟩) m cap] ∧ Blk W' Bn 3 #[.int .i64 32]) ∨ (e = .returned (.bool false) ∧ Jx (pre ++ [⟨k1, hx⟩]) W')) (fun w hg => by
            have e:Pn b off m ⟨k1,hx⟩=#[.slice (some ⟨b,off+32*k1*1,none⟩) (32*k1+sz - 32*k1) (32*k1+sz - 32*k1)]:=by unfold Pn Pm; rw [← hsz,Nat.add_sub_cancel_left]
            have y:=hY pre ⟨k1,hx⟩ w (BJ hJ hj hg) om
            rw [e] at y
            exact Gn y (λe w' q=>q.imp (λq=>⟨q.1,q.2.1,q.2.2.2 (Bs,24,_) (by simp) (hg.blk hS),q.2.2.2 (Bn,3,_) (by simp) (hg.blk hN)⟩) id)) (λe w' q=>q.elim (λq=>⟨_,q.1⟩) (λq=>⟨_,q.1⟩)) U (λw2 b hr=>?_)
    cases b
    · have hx2:=hr.elim (λq=>by cases q.1) (λq=>q.2)
      refine sP (.bool true)<|sG<|sT<|Sy.ret<|Sy.in_ret<|Sy.then_ret<|Sy.then_ret<|Sy.in_ret ?_
      exact Sy.retP U (λv w3 hg=>⟨⟨_,rfl⟩,.inr ⟨pre++[⟨k1,hx⟩],⟨k1+1,by omega,by rw [List.map_append,hpre,List.range_succ]; rfl⟩,BJ hJx hx2 hg⟩⟩) (.inl U)
    · clear hS hN hj
      obtain ⟨hj,hS,hN⟩:=hr.elim (λq=>q.2) (λq=>by cases q.1)
      refine sP (.bool false)<|sG<|sU<|Sy.skip<|Sy.in_<|Sy.then_<|Sy.region<|sP (iZ (32*k1))<|sS (iZ 32) (Quiet.thereOne Bn 0 3 _ _ U kR hN.lt _ (hN.cell 0) uy3 U)<|sS (iZ ((32*k1)+32)) (qad U U U)<|sP (iZ ((32*k1)+32))<|Sy.nil ?_
      exact Sy.againP om ac4 (λw3 hg=>⟨pre++[⟨k1,hx⟩],by rw [List.map_append,hpre,List.range_succ]; rfl,BJ hJ hj hg,hg.blk hS,hg.blk hN⟩)
theorem Lz (n l Bs Bn cap : Nat) (A : Option Addr) (J Jx : List (Fin 0) → World → Prop) (W : World) (hJ : AbidesFrom W.heap.size J)
    (hS:Blk W Bs 24 #[.slice A 0 cap]) (hN:Blk W Bn 3 #[.int .i64 32]) (h0:J [] W) :
    CallsIn Fence.wide n Tryz.prog 243 #[.func (.yield l) #[] #[],pT Bs 0,pT Bn 0] W λe W'=>(∃ v,e=.returned v)∧((∃ ys:List (Fin 0),ys.map (·.1)=List.range 0∧J ys W')∨(∃ pre:List (Fin 0),(∃ k,k≤0∧pre.map (·.1)=List.range k)∧Jx pre W')):=by
  refine Sy.enterP (args:=[.func (.yield l) #[] #[],pT Bs 0,pT Bn 0]) Tryz.func243 U kL<|sC<|sP (.int .i64 0)<|sG<|Sy.block<|Sy.loopP 0 (λk1=>[(0,.func (.yield l) #[] #[]),(1,pT Bs 0),(2,pT Bn 0),(4,iZ (32*k1))]) (λk1 w=>J [] w∧Blk w Bs 24 #[.slice A 0 cap]∧Blk w Bn 3 #[.int .i64 32]) ac4 (λw hg=>⟨BJ hJ h0 hg,hg.blk hS,hg.blk hN⟩) (λk1 wr hk1 hz=>?_)
  clear hS hN
  obtain ⟨hj,hS,hN⟩:=hz
  refine Sy.seq<|sC<|sP (iZ (32*k1))<|sS (.slice A 0 cap) (Quiet.thereOne Bs 0 24 _ _ U kR hS.lt _ (hS.cell 0) Ci U)<|sP (iZ 0) ?_
  obtain ⟨b1,hb1⟩:=xE (decide (32*k1<0))
  refine sS (.bool b1) (qls U U U hb1)<|sG ?_
  cases b1
  · have lb1:=dN hb1
    refine sU<|Sy.exit<|Sy.then_exit<|Sy.then_exit ?_
    obtain rfl:k1=0:=om
    refine Sy.in_exit ?_
    exact Sy.retP U (λv w3 hg=>⟨⟨_,rfl⟩,.inl ⟨[],rfl,BJ hJ hj hg⟩⟩) (.inr U)
  · have lb1:=dY hb1
    refine sT<|Sy.skip<|Sy.then_<|Sy.seq ?_
    exact absurd lb1 om
theorem Je (n Bs Bn n₀ b off m cap N : Nat) (A : Option Addr) (hN0 : N = (m + 31) / 32) (hm : m ≤ cap) (hm2 : m ≤ 4611686018427387904) (hA : 0 < m → A = some ⟨b, off, none⟩) (w : World) (hS : Blk w Bs 24 #[.slice A m cap]) (hN : Blk w Bn 3 #[.int .i64 32]) :
    SeqStopsK Fence.wide n Tryz.prog 243 #[pT Bs 0,pT Bn 0] (Pn b off m (N:=N)) (KpL n₀ [(Bs,24,#[.slice A m cap]),(Bn,3,#[.int .i64 32])]) (λys=>ys.map (·.1)=List.range N) (λpre=>∃ k,k≤N∧pre.map (·.1)=List.range k) N w:=λl J Jx W hW hJ hJx hY h0=>by
  have hS':=hS.below hW hS.lt
  have hN':=hN.below hW hN.lt
  rcases Nat.eq_zero_or_pos m with h | h
  · subst h
    obtain rfl:N=0:=hN0
    exact Lz n l Bs Bn cap A J Jx W hJ hS' hN' h0
  · obtain rfl:=hA h
    exact Ly n l Bs Bn n₀ b off m cap N hN0 hm hm2 J Jx W hJ hJx hY hS' hN' h0
end Cu
end
section
namespace Cu
open Go.RowKit Sy
def b32 (m:List UInt8) (k:Nat):List UInt8:=(m.drop (32*k)).take 32
def nmB (m:List UInt8) (k:Nat):Nat:=Au (b32 m k)
theorem M2 {m:List UInt8} {D k:Nat} (h:m.length=32*D) (hk:k<D):(b32 m k).length=32:=by
 unfold b32
 rw [List.length_take,List.length_drop]
 omega
def Ni (m:List UInt8) (D:Nat):Bool:=(List.range D).all λj=>decide (nmB m j<Sc.pM)
theorem Qq {m:List UInt8} {D:Nat} (h:∀ j,j<D→nmB m j<Sc.pM):Ni m D=true:=List.all_eq_true.2 λj hj=>decide_eq_true (h j (List.mem_range.1 hj))
theorem SW {m:List UInt8} {D j:Nat} (hj:j<D) (h:¬ nmB m j<Sc.pM):Ni m D=false:=List.all_eq_false.2 ⟨j,List.mem_range.2 hj,by rw [decide_eq_false h]; decide⟩
def UE (b:Bool) (f:Nat→Nat) (D:Nat) (v:Value) (M:AB):Prop:=(b=false∧v=.tuple #[.slice none 0 0,.bool false]∧M=[])∨(b=true∧∃ y:Slc,v=.tuple #[y.v,.bool true]∧M=y.bl∧y.Is 42 4 ((List.range D).map λj=>fws (f j)))
theorem MK {w:World} {g o D k:Nat} {m:List UInt8} (hm:m.length=32*D) (hk:k<D) (hs:Sh.Src w (some ⟨g,o,none⟩) m):g<w.heap.size∧w.rangeAt g (o+32*k*1) ((b32 m k).map bv):=by
 have hne:m≠[]:=λe=>by rw [e] at hm; simp at hm; omega
 obtain ⟨b,o',e,h2,h3⟩:=hs hne
 cases e
 refine ⟨h2,λj v hj=>?_⟩
 rw [List.getElem?_map] at hj
 cases hx:(b32 m k)[j]? with
 | none=>rw [hx] at hj; cases hj
 | some u =>
  rw [hx] at hj
  injection hj with hj
  rw [← hj]
  have hl:=(List.getElem?_eq_some_iff.1 hx).1
  rw [M2 hm hk] at hl
  unfold b32 at hx
  rw [List.getElem?_take_of_lt hl,List.getElem?_drop] at hx
  have:=h3 _ u hx
  rw [show o+32*k*1+j=o+(32*k+j) by omega]
  exact this
theorem J5 (w:World) (g o D c:Nat) (m:List UInt8) (hm:m.length=32*D) (h1:1≤D) (hD:D≤1000000) (hc:32*D≤c) (hc2:c≤9223372036854775807) (hs:Sh.Src w (some ⟨g,o,none⟩) m):Calls Tryz.prog 151 #[.slice (some ⟨g,o,none⟩) (32*D) c] w (GetsN w (UE (Ni m D) (nmB m) D)):=by
 refine Sy.enterM (args:=[.slice (some ⟨g,o,none⟩) (32*D) c]) Tryz.func151 U kL<|sC<|sM 51 #[.slice none 0 0] (λg0=>?_)
 refine sM 4 #[.bool false] (λg1=>?_)
 refine sG<|sC<|sM 51 #[.slice none 0 0] (λg2=>?_)
 refine sG<|Sy.seq<|sC<|sP (.slice (some ⟨g,o,none⟩) (32*D) c)<|Sy.callN kR 207 #[.slice (some ⟨g,o,none⟩) (32*D) c,.int .i64 32] kF _ (λw _=>Lx w _ _ _) (λv M hR0=>?_)
 obtain ⟨u1,u2,rfl,rfl⟩:=hR0
 refine sG<|Sy.block ?_
 have hg:g<w.heap.size:=(MK hm h1 hs).1
 refine Sy.rangeY (α:=Fin D) (Y:=Slc) 243 #[pT u1 0,pT u2 0] kR kR (enters_of Tryz.func243 kR U) (Pn g o (32*D)) [(u1,24,#[.slice (some ⟨g,o,none⟩) (32*D) c]),(u2,3,#[.int .i64 32])] (λys=>ys.map (·.1)=List.range D) (λpre=>∃ k,k≤D∧pre.map (·.1)=List.range k) D (λ_=>rfl) dZ
  (λpre y=>y.Is 42 4 (pre.map λx=>fws (nmB m x.val))∧pre.length≤D∧∀ x∈pre,nmB m x.val<Sc.pM)
  (λ_ y=>[(g0,51,#[.slice none 0 0]),(g1,4,#[.bool false]),(g2,51,#[y.v]),(u1,24,#[.slice (some ⟨g,o,none⟩) (32*D) c]),(u2,3,#[.int .i64 32])]++(y.bl++[]))
  (λ_ _=>[(g0,51,#[.slice none 0 0]),(g1,4,#[.bool false]),(u1,24,#[.slice (some ⟨g,o,none⟩) (32*D) c]),(u2,3,#[.int .i64 32])]++[])
  (λpre _=>∃ x∈pre, ¬ nmB m x.val<Sc.pM) nilS ⟨Slc.Is.nil _ _,Nat.zero_le _,λx hx=>by cases hx⟩ (λw hw=>hw) (λw hw=>?_) (λp hp pre y=>?_) (λx=>[(2,ptr g0),(3,ptr g1),(4,ptr g2),(5,Pm g o (32*D) x.val)]) ?_ ?_ ?_ ?_
 ·exact ⟨w,Below.refl _ _,Je 8 u1 u2 _ g o (32*D) c D _ om hc om (λ_=>rfl) w (hw.get (i:=3) rfl) (hw.get (i:=4) rfl)⟩
 ·simp only [List.mem_cons,List.not_mem_nil,or_false] at hp
  rcases hp with rfl | rfl <;> simp
 ·intro l fz pre y x
  refine Sy.regionR (by rintro ⟨_,_,h⟩; exact h) kR ⟨_,rfl⟩<|sP (Pm g o (32*D) x.val)<|Sy.nil ?_
  exact Sy.apY ac4 (λw hw=>hw)
 ·intro l fz pre y x hlen ⟨hy,hpl,hok⟩
  have hxN:=x.isLt
  have hz:szC (32*D) x.val=32:=by unfold szC; omega
  obtain ⟨bl,hbl⟩:=xE (b32 m x.val)
  have hl32:bl.length=32:=by rw [hbl]; exact M2 hm hxN
  obtain ⟨kx,hkx⟩:=xE ((Sc.readS bl).1)
  obtain ⟨b1,hb1⟩:=xE ((Sc.readS bl).2)
  refine Sy.block<|Sy.seq<|Sy.regionR (by rintro ⟨_,_,h⟩; exact h) kR ⟨_,rfl⟩<|sP (Pm g o (32*D) x.val)<|sS (.pointer (some ⟨g,o+32*x.val*1,none⟩)) (Quiet.pure (λw=>H3 22 _ _ (some ⟨g,o+32*x.val*1,none⟩) 32 (szC (32*D) x.val) (szC (32*D) x.val) rfl kR Gv (by rw [hz]; decide) w))<|sS (.agg (bl.map bv).toArray) (Quiet.there g (o+32*x.val*1) 32 22 (bl.map bv) _ _ rfl kR hg (by rw [hbl]; exact (MK hm hxN hs).2) Gv rfl kR ((List.length_map ..).trans hl32) _ rfl)<|sS (.tuple #[fv kx,.bool b1]) (qF 208 #[.agg (bl.map bv).toArray] (λw=>by rw [hkx,hb1]; exact Sc.read_any w bl hl32))<|sP (.tuple #[fv kx,.bool b1])<|sP (fv kx)<|sP (.bool b1)<|sM 42 (fcs 0) (λg6=>?_)
  refine Sy.movT<|sW 5 g6 42 (fcs 0) (fcs kx) (wS 0 42 (fcs kx) rfl)<|Sy.setT<|sP (.bool b1)<|sG<|Sy.seq<|Sy.seq<|Sy.regionR (by rintro ⟨_,_,h⟩; exact h) kR ⟨_,rfl⟩<|sP (.bool b1) ?_
  cases b1
  ·have hno:¬ nmB m x.val<Sc.pM:=λh=>by
    unfold Sc.readS at hb1
    rw [show Au bl=nmB m x.val from by rw [hbl]; rfl,if_pos h] at hb1
    cases hb1
   refine sP (.bool true)<|sG<|sT<|Sy.seq<|Sy.regionR (by rintro ⟨_,_,h⟩; exact h) kR ⟨_,rfl⟩<|sW 0 g0 51 #[.slice none 0 0] #[.slice none 0 0] (wO 0 51 (.slice none 0 0) rfl)<|Sy.setT<|sW 1 g1 4 #[.bool false] #[.bool false] (wO 0 4 (.bool false) rfl)<|Sy.setT<|sG<|Sy.ret<|Sy.then_ret<|Sy.in_ret ?_
   exact Sy.bpYR nilS ⟨x,List.mem_append.2 (.inr (List.mem_singleton.2 U)),hno⟩ (λw hw=>St.pick (T:=[]) [0,1,3,4] dZ kZ (St.less hw (List.Sublist.append (List.Sublist.refl _) (List.nil_sublist _))))
  ·obtain ⟨hlt,hkv⟩:nmB m x.val<Sc.pM∧kx=nmB m x.val:=by
    unfold Sc.readS at hb1 hkx
    rw [show Au bl=nmB m x.val from by rw [hbl]; rfl] at hb1 hkx
    by_cases h:nmB m x.val<Sc.pM
    ·rw [if_pos h] at hkx; exact ⟨h,hkx⟩
    ·rw [if_neg h] at hb1; cases hb1
   refine sP (.bool false)<|sG<|sU<|Sy.skip<|Sy.then_<|Sy.regionR (by rintro ⟨_,_,h⟩; exact h) kR ⟨_,rfl⟩<|sS y.v (qC 2 g2 0 51 51 #[y.v] rfl CG)<|sS (fv kx) (qL 5 g6 0 4 42 42 (fcs kx) rfl Ah)<|Sy.make kR 42 (fcs kx) (λg=>.slice (pA g) 1 1) (λ_=>kR) (λg7=>?_)
   refine Sy.movT<|Sy.appendR kR 51 42 _ _ 4 32 CG EE U U U U dZ _ _ U hy kR (fws kx) rfl (C0 _) 6 g7 42 kR kR (by rw [List.length_map]; omega) (by rw [List.length_map]; simp only [maxLen]; omega) (λr hr=>?_)
   refine sW 2 g2 51 #[y.v] #[r.v] (Writes.one 0 51 r.v _ _ U kR kR kR hr.cells.1 hr.cells.2 (Nat.lt_succ_self 0) rfl)<|Sy.setT<|Sy.nil<|Sy.in_ ?_
   exact Sy.bpY r ⟨by rw [List.map_append,List.map_singleton, ← hkv]; exact hr,by rw [List.length_append,List.length_singleton]; omega,λz hz=>(List.mem_append.1 hz).elim (hok z) (λh=>by rw [List.mem_singleton.1 h]; exact hlt)⟩ (λw hw=>St.pick [0,1,2,3,4] dZ kZ hw)
 ·intro D' fz xs y hS ⟨hy,hpl,hok⟩ hD' hm'
  have hS0:xs.map (·.1)=List.range D:=hS
  refine Sy.in_<|sB<|sS y.v (qC 2 g2 0 51 51 #[y.v] rfl CG)<|sW 0 g0 51 #[.slice none 0 0] #[y.v] (Writes.one 0 51 y.v _ _ U kR kR kR hy.cells.1 hy.cells.2 (Nat.lt_succ_self 0) rfl)<|Sy.setT<|sW 1 g1 4 #[.bool false] #[.bool true] (wO 0 4 (.bool true) rfl)<|Sy.setT<|sG<|Sy.ret ?_
  have hall:Ni m D=true:=Qq λj hj=>by
   have:j∈xs.map (·.1):=by rw [hS0]; exact List.mem_range.2 hj
   obtain ⟨x,hx,rfl⟩:=List.mem_map.1 this
   exact hok x hx
  refine Sy.retMG2 y.bl U (Sy.hasC g0 0 #[y.v] CG) (Sy.hasC (v:=.bool true) g1 1 #[.bool true] uy4) (λw hw=>?_) (.inr ⟨hall,y,rfl,rfl,?_⟩) hD' hm'
  ·exact St.less hw (by rw [List.append_nil]; exact List.sublist_append_right _ _)
  ·rw [← hS0,List.map_map]; exact hy
 ·intro D' fz pre y hS ⟨x,hx,hno⟩ hD' hm'
  refine Sy.in_ret<|Sy.then_ret ?_
  exact Sy.retMG2 [] rfl (Sy.hasC g0 0 #[.slice none 0 0] CG) (Sy.hasC (v:=.bool false) g1 1 #[.bool false] uy4) (λw hw=>hw.none) (.inl ⟨SW x.isLt hno,rfl,rfl⟩) hD' hm'
end Cu
end
section
namespace Cu
open Go.RowKit Sy
theorem Dc (E:Nat→Nat):∀ k,A4 E k=32*(1+BA E k)
 | 0=>rfl
 | k+1=>by
  show A4 E k+E k*32=32*(1+(BA E k+E k))
  rw [Dc E k]
  omega
def nmD (m:List UInt8) (E:Nat→Nat) (i j:Nat):Nat:=nmB m (1+BA E i+j)
def OA (m:List UInt8) (E:Nat→Nat) (i:Nat):Bool:=(List.range (E i)).all λj=>decide (nmD m E i j<Sc.pM)
def Ki (m:List UInt8) (E:Nat→Nat) (N:Nat):Bool:=(List.range N).all (OA m E)
theorem Iw {m:List UInt8} {E:Nat→Nat} {N:Nat} (h:∀ i,i<N→OA m E i=true):Ki m E N=true:=List.all_eq_true.2 λi hi=>h i (List.mem_range.1 hi)
theorem Pf {m:List UInt8} {E:Nat→Nat} {N i:Nat} (hi:i<N) (h:OA m E i=false):Ki m E N=false:=List.all_eq_false.2 ⟨i,List.mem_range.2 hi,by rw [h]; decide⟩
def Kh (m:List UInt8) (D:Nat→Int) (N:Nat):Bool:=szZ N D && (decide (m.length=A4 (λi=>(D i).toNat) N) && Ki m (λi=>(D i).toNat) N)
def DecR (b:Bool) (d:List UInt8) (f:Nat→Nat→Nat) (nk:Nat→Nat) (NR:Nat) (v:Value) (M:AB):Prop :=
 (b=false∧v=.tuple #[AM (List.replicate 32 0) none 0 0,.bool false]∧M=[])∨(b=true∧∃ u,v=.tuple #[u,.bool true]∧K9 d (λi j=>fws (f i j)) nk NR u M)
def IK (m:List UInt8) (E:Nat→Nat) (k:Nat):List UInt8:=(m.drop (A4 E k)).take (32*E k)
theorem JY (E:Nat→Nat) {k N:Nat} (h:k<N):A4 E k+32*E k≤A4 E N:=by
 have h1:BA E (k+1)≤BA E N:=Cv E h
 rw [Dc,Dc]
 have h2:BA E (k+1)=BA E k+E k:=rfl
 omega
theorem Kk {m:List UInt8} {E:Nat→Nat} {k N:Nat} (hm:m.length=A4 E N) (hk:k<N):(IK m E k).length=32*E k:=by
 have:=JY E hk
 unfold IK
 rw [List.length_take,List.length_drop]
 omega
theorem Jd {m:List UInt8} {E:Nat→Nat} {k j:Nat} (hj:j<E k):nmB (IK m E k) j=nmD m E k j:=by
 unfold nmD nmB b32 IK
 rw [Dc,List.drop_take,List.take_take,List.drop_drop]
 congr 3
 ·omega
 ·omega
theorem Mv {m:List UInt8} {E:Nat→Nat} {k:Nat}:Ni (IK m E k) (E k)=OA m E k:=by
 unfold Ni OA
 refine Bool.eq_iff_iff.2 ?_
 rw [List.all_eq_true,List.all_eq_true]
 exact ⟨λh x hx=>by have:=h x hx; rwa [Jd (List.mem_range.1 hx)] at this,λh x hx=>by have:=h x hx; rwa [Jd (List.mem_range.1 hx)]⟩
theorem QO {w:World} {g o N k:Nat} {m:List UInt8} {E:Nat→Nat} (hm:m.length=A4 E N) (hk:k<N) (hs:Sh.Src w (some ⟨g,o,none⟩) m):Sh.Src w (some ⟨g,o+A4 E k,none⟩) (IK m E k):=λhne=>by
 have hl:=JY E hk
 obtain ⟨b,o',e,h2,h3⟩:=hs (λe=>by rw [e] at hm; have:=Dc E N; simp at hm; omega)
 cases e
 refine ⟨_,_,rfl,h2,λj u hj=>?_⟩
 have hjl:=(List.getElem?_eq_some_iff.1 hj).1
 rw [Kk hm hk] at hjl
 unfold IK at hj
 rw [List.getElem?_take_of_lt hjl,List.getElem?_drop] at hj
 rw [Nat.add_assoc]
 exact h3 _ u hj
section
variable {P:Program} {w0:Base} {F:AN} {L:AB} {o:Oper}
theorem Ir (t:TypeId) (x lx:Operand) (g f len cap lo s:Nat) (kl:IntKind) (ho:o.op=.slice t x (some lx) none none) (hx:evF F x=.slice (some ⟨g,f,none⟩) len cap) (hl:evF F lx=.int kl (lo:Int)) (ht:P.underlying t=some (.slice (P.elem t))) (hsz:∀ w,(sizeOf (P.elem t)).run P w=.ok s w) (h1:lo≤len) (w:World) :
  (execOp (evF F) o).run P w=.ok (.value (.slice (some ⟨g,if cap=lo then f else f+lo*s,none⟩) (len - lo) (cap - lo))) w:=by
 have e:(Instr.sliceAt t (.slice (some ⟨g,f,none⟩) len cap) (some (.int kl (lo:Int))) none none).run P w=.ok (.slice (some ⟨g,if cap=lo then f else f+lo*s,none⟩) (len - lo) (cap - lo)) w:=by
  rw [run_sliceAt_slice w t _ _ _ _ ht,run_slice_l w t (some ⟨g,f,none⟩) len cap ht kl lo om om]
  by_cases h:cap=lo <;> simp [hsz,sliced,h,B_,Result.andThen]
 unfold execOp
 simp only [ho,hx,hl,Option.map_some,Option.map_none,e,Sem.run_bind,Sem.run_pure,Result.andThen_ok]
end
theorem OR {w:World} {g o:Nat} {m:List UInt8} {k:Nat} (h:∀ j u,m[j]? = some u→w.cell? ⟨g,o+j,none⟩=some (bv u)):w.rangeAt g o ((m.take k).map bv):=λj v hj=>by
 rw [List.getElem?_map] at hj
 cases hx:(m.take k)[j]? with
 | none=>rw [hx] at hj; cases hj
 | some u =>
  rw [hx] at hj
  injection hj with hj
  rw [← hj]
  have hl:=(List.getElem?_eq_some_iff.1 hx).1
  rw [List.length_take] at hl
  rw [List.getElem?_take_of_lt om] at hx
  exact h j u hx
theorem Lt {place:Nat→Option (Nat×Nat)} {z c:List Value} {u:Value} {n:Nat} (hp:place 0=some (0,n)) (hc:c.length=n) (hz:z.length=n):Instr.fill place (z++[u]).toArray [(0,.agg c.toArray)]=some (c++[u]).toArray:=by
 unfold Instr.fill
 rw [hp]
 simp only [Value.cells,List.size_toArray,hc,Nat.zero_add,ne_eq,not_true_eq_false,decide_false,Bool.false_or]
 rw [if_neg (by simp [hz])]
 unfold Instr.fill
 have h1:c.toArray.zipIdx.foldl (λcs (x:Value×Nat)=>cs.setIfInBounds (0+x.2) x.1) (z++[u]).toArray=setAll (z++[u]).toArray (0+0) c:=by
  rw [← Hq c 0 0, ← Array.foldl_toList,Array.toList_zipIdx]
 simp only [Nat.zero_add] at h1
 rw [h1]
 have h2:=Cd c 0 (z++[u]).toArray (by rw [List.size_toArray,List.length_append,hz,hc]; simp)
 rw [h2]
 simp only [List.take_zero,List.nil_append,Nat.zero_add]
 rw [List.drop_left' (by rw [hz,hc])]
theorem Quiet.build1F {P:Program} {w0:Base} {F:AN} {L:AB} {o:Oper} (t:TypeId) (fs:Array Field) (it:TypeInfo) (z c:List Value) (u:Value) (x:Operand) (n:Nat) (ho:o.op=.build t #[(0,x)]) (hx:evF F x=.agg c.toArray) (hu:P.underlying t=some (.struct fs)) (hit:P.info? t=some it) (hz:it.zero=some (.agg (z++[u]).toArray))
  (hpl:fs.toList.mapM (λf=>(P.info? f.type).map λi=>(f.offset,i.size))=some [(0,n),(n,1)]) (hc:c.length=n) (hzl:z.length=n):Quiet P w0 F L o (.agg (c++[u]).toArray):=Quiet.pure λw=>by
 have hb:P.built t #[(0,.agg c.toArray)].toList=some (c++[u]).toArray:=by
  unfold Program.built
  rw [hit,hu]
  simp only [hz,hpl]
  exact Lt U hc hzl
 have hr:=run_build (P:=P) w t #[(0,.agg c.toArray)] _ hb
 unfold execOp
 simp only [ho,Sem.run_bind,List.map_toArray,List.map_cons,List.map_nil,hx,hr,Result.andThen_ok,Sem.run_pure]
noncomputable def infRS:TypeInfo:=(Tryz.prog.info? 31).getD default
theorem RE:Tryz.prog.info? 31=some infRS:=kZ
theorem P9:infRS.zero=some (.agg (List.replicate 32 (Value.int .u8 0)++[Value.slice none 0 0]).toArray):=kZ
theorem Pu {w0:Base} {F:AN} {L:AB} {o:Oper} {x:Operand} (d:List UInt8) (hd:d.length=32) (ho:o.op=.build 31 #[(0,x)]) (hx:evF F x=.agg (d.map bv).toArray):Quiet Tryz.prog w0 F L o (AM d none 0 0) :=
 Quiet.build1F 31 _ infRS _ _ _ x 32 ho hx DV RE P9 kZ ((List.length_map ..).trans hd) List.length_replicate
theorem Pe (w:World) (A:Option Addr) (m:List UInt8) (n c:Nat) (hm:m.length=n) (hc:n≤c) (hc2:c≤9223372036854775807) (hs:Sh.Src w A m) (Z:Option Addr) (N zc:Nat) (D:Nat→Int) (hN:N≤4611686018427387904) (hlz:Lst w 1 Z N (λk=>[.int .i64 (D k)])) :
  Calls Tryz.prog 88 #[.slice A n c,.slice Z N zc] w (GetsN w (DecR (Kh m D N) (m.take 32) (nmD m λi=>(D i).toNat) (λi=>(D i).toNat) N)):=by
 have hlz0:=hlz
 obtain ⟨E,hE⟩:∃ E:Nat→Nat,E=λi=>(D i).toNat:=⟨_,rfl⟩
 rw [show Kh m D N=(szZ N D && (decide (m.length=A4 E N) && Ki m E N)) by rw [hE]; rfl, ← hE]
 refine Sy.enter (args:=[.slice A n c,.slice Z N zc]) Tryz.func88 U kL<|sC<|sM 31 (AO (List.replicate 32 0) none 0 0).toArray (λg0=>?_)
 refine sP (.bool false)<|sG<|Sy.seq<|sC ?_
 obtain ⟨b1,hb1⟩:=xE (szZ N D)
 refine sP (.slice Z N zc)<|sS (.bool b1) (qG 90 #[.slice Z N zc] (λw hw=>by rw [hb1]; exact Jh w Z N zc D hN (hlz0.below hw.below))) ?_
 cases b1
 ·rw [← hb1,Bool.false_and]
  refine sP (.bool true)<|sP (.bool true)<|sN<|sN<|sN<|sN<|sN<|sP (.bool true)<|sG<|sT<|sC<|sP (AM (List.replicate 32 (0:UInt8)) none 0 0)<|sW 0 g0 31 zS33.toArray zS33.toArray (Writes.row 31 zS33 33 _ _ U kR kR kR (Ag List.length_replicate) (by rw [List.size_toArray,Ag List.length_replicate]) Bo)<|sP (.bool false)<|sG<|Sy.ret<|Sy.then_ret ?_
  exact BD [] rfl (v:=AM (List.replicate 32 (0:UInt8)) none 0 0) (u:=.bool false) (.inl (Res.cell (ty':=31) g0 0 zS33.toArray _ kR kR DV U (by rw [List.size_toArray,Ag List.length_replicate]; kernel_rfl) rfl)) (.inl (show _=_ by kernel_rfl)) (λ_ hw=>hw.none) (.inl ⟨rfl,rfl,rfl⟩)
 ·have hsz:=(JA N D).1 hb1.symm
  have hDE:∀ i,i<N→D i=((E i:Nat):Int)∧1≤E i∧E i≤64:=λi hi=>by
   have:=hsz.2.2 i hi
   rw [hE]
   show D i=(((D i).toNat:Nat):Int)∧1≤(D i).toNat∧(D i).toNat≤64
   omega
  have hlzE:Lst w 1 Z N (λk=>[iZ (E k)]):=E0 hlz0 (λi hi=>by rw [(hDE i hi).1])
  obtain ⟨tl,htl⟩:=xE (A4 E N)
  obtain ⟨b2,hb2⟩:=xE (decide (n≠tl))
  refine sP (.bool false)<|sP (.bool false)<|sP (.slice A n c)<|sP (iZ n)<|sP (.slice Z N zc)<|sS (iZ tl) (qG 150 #[.slice Z N zc] (λw hw=>by rw [htl]; exact Lk w Z N zc E om (λi hi=>(hDE i hi).2.2) (hlzE.below hw.below))) <|
   sS (.bool b2) (qne U U U hb2)<|sP (.bool b2) ?_
  refine sG ?_
  cases b2
  ·have hn:n=tl:=Decidable.of_not_not (of_decide_eq_false hb2.symm)
   have hml:m.length=A4 E N:=by rw [hm,hn,htl]
   have hP:∀ k,k<N→A4 E k+32*E k≤n:=λk hk=>by rw [hn,htl]; exact JY E hk
   have hL32:∀ k,32≤A4 E k:=λk=>by rw [Dc]; omega
   obtain ⟨gz,oz,hZ⟩:=hlzE
   have h0N:0<N:=om
   have hne:m≠[]:=λe=>by
    have h1:=hP 0 h0N
    have h2:=hL32 0
    rw [e] at hm
    have:n=0:=hm.symm
    omega
   have hA:=hs hne
   obtain ⟨g,o,rfl,hg,hcl⟩:=hA
   obtain ⟨d,hd⟩:=xE (m.take 32)
   have hn32:32≤n:=by have:=hP 0 h0N; have:=hL32 0; omega
   have hdl:d.length=32:=by rw [hd,List.length_take]; omega
   refine sU<|Sy.skip<|Sy.then_<|sC<|sP (.slice (some ⟨g,o,none⟩) n c)<|sS (.slice (some ⟨g,o,none⟩) 32 c) (Quiet.pure (Ew _ _ _ g o n c 32 1 .i64 U U U Ci kF om)) <|
    sS (pT g o) (Quiet.pure (λw=>H3 23 _ _ (some ⟨g,o,none⟩) 32 32 c U kR DA dZ w)) <|
    sS (.agg (d.map bv).toArray) (Quiet.there g o 32 23 (d.map bv) _ _ U kR hg (by rw [hd]; exact OR hcl) DA U kR ((List.length_map ..).trans hdl) _ U) ?_
   refine sS (AM d none 0 0) (Pu d hdl U U)<|sM 31 zS33.toArray (λg1=>?_)
   refine sW 1 g1 31 zS33.toArray (sgx d (.slice none 0 0)).toArray (Writes.row 31 (sgx d (.slice none 0 0)) 33 _ _ U kR kR kR (GX hdl) (by rw [List.size_toArray,Ag List.length_replicate]) Bo)<|sA ?_
   have hE0:=(hDE 0 h0N).2.1
   have hP0:=hP 0 h0N
   have hL0:A4 E 0=32:=rfl
   refine sP (.slice (some ⟨g,o,none⟩) n c)<|sS (.slice (some ⟨g,o+A4 E 0,none⟩) (n - A4 E 0) (c - A4 E 0)) (Quiet.pure (Hy _ _ _ g o n c 32 1 .i64 U U U Ci kF om om))<|sP (.slice (some ⟨g,o+A4 E 0,none⟩) (n - A4 E 0) (c - A4 E 0))<|sG<|Sy.seq<|sC<|sP (.slice Z N zc)<|sP (iZ N)<|sP (.int .i64 0)<|sG<|Sy.block<|Sy.loopT (Y:=(Nat→Slc)×Slc×Value) N (λk1 y1=>[(0,y1.2.2),(4,ptr g0),(6,ptr g1),(29,.slice Z N zc),(30,iZ N),(31,iZ k1)]) (λk1 y1=>[(g0,31,zS33.toArray),(g1,31,(sgx d y1.2.1.v).toArray)]++(Ai y1.1 N++(y1.2.1.bl++[])))
    (λk1 y1=>RowsAre y1.1 42 4 (λi j=>fws (nmD m E i j)) (Bx E k1 0)∧y1.2.1.Is 51 1 ((List.range k1).map λi=>[(y1.1 i).v])∧(∀ i,k1≤i→y1.1 i=nilS)∧(k1<N→y1.2.2=.slice (some ⟨g,o+A4 E k1,none⟩) (n - A4 E k1) (c - A4 E k1))∧∀ i,i<k1→OA m E i=true)
    (λ_=>nilS,nilS,.slice (some ⟨g,o+A4 E 0,none⟩) (n - A4 E 0) (c - A4 E 0)) ⟨(RowsAre.nil _ _ _).cnt (Ey E),Slc.Is.nil _ _,λ_ _=>rfl,λ_=>rfl,λi hi=>absurd hi (Nat.not_lt_zero _)⟩
    ac6 (λw hw=>by rw [En]; exact hw) (λk1 y1 hk1 hh1=>?_)
   obtain ⟨q1,O1,v1⟩:=y1
   dsimp only at hh1 ⊢
   obtain ⟨hr1,hO1,hn1,hv1,hk1ok⟩:=hh1
   refine sC ?_
   obtain ⟨b3,hb3⟩:=xE (decide (k1<N))
   refine sS (.bool b3) (qls U U U hb3)<|sG<|Sy.seq ?_
   cases b3
   ·have lb3:=dN hb3
    obtain rfl:N=k1:=om
    obtain ⟨gO,cO,spO,hOv,hOb,hO2,hcO,hO3⟩:=hO1.open h0N
    obtain ⟨ov,ob⟩:=O1
    obtain rfl:ov=_:=hOv
    obtain rfl:ob=_:=hOb
    refine sU<|Sy.exit<|Sy.then_exit<|Sy.then_exit<|Sy.in_exit<|sB<|sS (AM d (pA gO) N cO) (Quiet.load 1 g1 0 33 31 31 (AO d (pA gO) N cO).toArray _ _ U kR kR DV U kR _ (DI hdl) (E5 hdl))<|sW 0 g0 31 zS33.toArray (AO d (pA gO) N cO).toArray (Writes.row 31 (AO d (pA gO) N cO) 33 _ _ U kR kR kR (Ag hdl) (by rw [List.size_toArray,Ag List.length_replicate]) Bo)<|Sy.setT<|sP (.bool true)<|sG<|Sy.ret ?_
    exact BD ((gO,51,(AH (λj=>[(q1 j).v]) N++spO).toArray)::Ai q1 N) rfl (v:=AM d (pA gO) N cO) (u:=.bool true) (.inl (Res.cell (ty':=31) g0 0 (AO d (pA gO) N cO).toArray _ kR kR DV U (by rw [List.size_toArray,Ag hdl]; kernel_rfl) rfl)) (.inl (show _=_ by kernel_rfl))
     (λw hw=>St.parts (ls:=[[(g0,31,(AO d (pA gO) N cO).toArray)],[(g1,31,(AO d (pA gO) N cO).toArray)],Ai q1 N,[(gO,51,(AH (λj=>[(q1 j).v]) N++spO).toArray)]]) (ms:=[[(gO,51,(AH (λj=>[(q1 j).v]) N++spO).toArray)],Ai q1 N]) [[(g0,31,(AO d (pA gO) N cO).toArray)],[(g1,31,(AO d (pA gO) N cO).toArray)]] [3,2,0,1] kR (by rfl) (by rfl) (by simp) hw)
     (.inr ⟨by rw [← hb1,decide_eq_true hml,Iw hk1ok]; rfl,_,rfl,gO,cO,spO,q1,by rw [← hd],hcO,rfl,hr1⟩)
   ·have lb3:=dY hb3
    obtain rfl:v1=_:=hv1 lb3
    have hEk:=hDE k1 lb3
    have hPk:=hP k1 lb3
    have hLk:=hL32 k1
    refine sT<|Sy.skip<|Sy.then_<|Sy.seq<|Sy.block<|sC<|sS (.pointer (some ⟨gz,oz+k1*1,none⟩)) (Quiet.pure (AJ 131 _ _ _ Z gz oz N zc k1 1 .i64 (hZ om).1 U U U EX kF om))<|sS (iZ (E k1)) (Quiet.thereOne gz (oz+k1*1) 3 _ _ U kR (hZ om).2.1 _ (AU ((hZ om).2.2 k1 om) 0 U) uy3 U)<|sP (iZ (E k1))<|sA<|sP (.slice (some ⟨g,o+A4 E k1,none⟩) (n - A4 E k1) (c - A4 E k1))<|sP (iZ (E k1))<|sS (iZ (32*E k1)) (qml U U U) <|
     sS (.slice (some ⟨g,o+A4 E k1,none⟩) (32*E k1) (c - A4 E k1)) (Quiet.pure (Ew _ _ _ g (o+A4 E k1) (n - A4 E k1) (c - A4 E k1) (32*E k1) 1 .i64 U U U Ci kF om)) ?_
    refine Sy.callN kR 151 #[.slice (some ⟨g,o+A4 E k1,none⟩) (32*E k1) (c - A4 E k1)] kF _ (λw hw=>J5 w g (o+A4 E k1) (E k1) (c - A4 E k1) (IK m E k1) (Kk hml lb3) hEk.2.1 om om om ((QO hml lb3 hs).below hw.below)) (λv M hR0=>?_)
    rcases hR0 with ⟨hb,rfl,rfl⟩ | ⟨hb,r,rfl,rfl,hr⟩
    ·rw [List.append_nil]
     have hno:Ki m E N=false:=Pf lb3 (by rw [← Mv]; exact hb)
     rw [hno,Bool.and_false,Bool.and_false]
     refine sP (.tuple #[.slice none 0 0,.bool false])<|sP (.slice none 0 0)<|sP (.bool false)<|sP (.slice none 0 0)<|sP (.bool false)<|sG<|Sy.seq<|sC<|sP (.bool false)<|sP (.bool true)<|sG<|sT<|sC<|sP (AM (List.replicate 32 (0:UInt8)) none 0 0)<|sW 0 g0 31 zS33.toArray zS33.toArray (Writes.row 31 zS33 33 _ _ U kR kR kR (Ag List.length_replicate) (by rw [List.size_toArray,Ag List.length_replicate]) Bo)<|Sy.setT<|sP (.bool false)<|sG<|Sy.ret ?_
     repeat' first | refine Sy.then_ret ?_ | refine Sy.in_ret ?_
     exact BD [] rfl (v:=AM (List.replicate 32 (0:UInt8)) none 0 0) (u:=.bool false) (.inl (Res.cell (ty':=31) g0 0 zS33.toArray _ kR kR DV U (by rw [List.size_toArray,Ag List.length_replicate]; kernel_rfl) rfl)) (.inl (show _=_ by kernel_rfl)) (λ_ hw=>hw.none) (.inl ⟨rfl,rfl,rfl⟩)
    ·obtain ⟨gk,ck,sp,hkv,hkb,hk1s,hk2s,hk3s⟩:=hr.open om
     obtain ⟨rv,rb⟩:=r
     obtain rfl:rv=_:=hkv
     obtain rfl:rb=_:=hkb
     obtain ⟨bk,hbk⟩:∃ b:Nat×TypeId×Array Value,b=(gk,42,(AH (λj=>fws (nmB (IK m E k1) j)) (E k1)++sp).toArray):=⟨_,rfl⟩
     refine sP (.tuple #[.slice (pA gk) (E k1) ck,.bool true])<|sP (.slice (pA gk) (E k1) ck)<|sP (.bool true)<|sP (.slice (pA gk) (E k1) ck)<|sP (.bool true)<|sG<|Sy.seq<|sC<|sP (.bool true)<|sP (.bool false)<|sG<|sU<|Sy.skip<|sB ?_
     rw [← hbk] at hr ⊢
     refine Sy.permS (M:=[(g0,31,zS33.toArray),(g1,31,(sgx d O1.v).toArray)]++(O1.bl++([bk]++(Ai q1 N++[])))) (Sy.flat_perm (ls:=[[(g0,31,zS33.toArray),(g1,31,(sgx d O1.v).toArray)],Ai q1 N,O1.bl,[bk]]) (ms:=[[(g0,31,zS33.toArray),(g1,31,(sgx d O1.v).toArray)],O1.bl,[bk],Ai q1 N]) [0,2,3,1] kZ (by rfl) (by simp) (by simp))<|sP (pT g1 32)<|sS O1.v (Quiet.cell 1 g1 32 31 29 (sgx d O1.v).toArray _ _ U kR kR CO U _ (OY hdl))<|sP (.slice (pA gk) (E k1) ck)<|Sy.make kR 51 #[.slice (pA gk) (E k1) ck] (λg=>.slice (pA g) 1 1) (λ_=>kR) (λg7=>?_)
     refine Sy.movT<|Sy.appendR kR 29 51 _ _ 1 24 CO Fd U U U U dZ _ _ U hO1 kR [.slice (pA gk) (E k1) ck] rfl (E_ _ _ _) 2 g7 51 kR kR (by rw [List.length_map,List.length_range]; omega) (by rw [List.length_map,List.length_range]; simp only [maxLen]; omega) (λr1 hr1'=>?_)
     refine sP (pT g1 32)<|sW 1 g1 31 (sgx d O1.v).toArray (sgx d r1.v).toArray (Writes.one 32 29 r1.v _ _ U kR kR kR hr1'.cells.1 hr1'.cells.2 (OX hdl) (MM hdl))<|Sy.setT<|sG<|Sy.region ?_
     obtain ⟨v2,hv2⟩:=xE (Value.slice (some ⟨g,if c - A4 E k1=32*E k1 then o+A4 E k1 else o+A4 E k1+32*E k1*1,none⟩) (n - A4 E k1 - 32*E k1) (c - A4 E k1 - 32*E k1))
     refine sP (.slice (some ⟨g,o+A4 E k1,none⟩) (n - A4 E k1) (c - A4 E k1))<|sP (iZ (E k1))<|sS (iZ (32*E k1)) (qml U U U) <|
      sS v2 (Quiet.pure (λw=>by rw [hv2]; exact Ir _ _ _ g (o+A4 E k1) (n - A4 E k1) (c - A4 E k1) (32*E k1) 1 .i64 U U U Ci kF om w))<|sP v2 ?_
     refine Sy.nil<|Sy.in_<|Sy.then_<|Sy.region<|sS (iZ (k1+1)) (qad U U U)<|sP (iZ (k1+1))<|Sy.nil ?_
     have hrD:(List.range (E k1)).map (λj=>fws (nmB (IK m E k1) j))=(List.range (E k1)).map (λj=>fws (nmD m E k1 j)):=List.map_congr_left λj hj=>by rw [Jd (List.mem_range.1 hj)]
     rw [hrD] at hr
     have eL:A4 E (k1+1)=A4 E k1+E k1*32:=rfl
     exact Sy.againT (CS q1 k1 ⟨.slice (pA gk) (E k1) ck,[bk]⟩,r1,v2) om
      ⟨RowsAre.full hr1 hr,by rw [List.range_succ,List.map_append,KO]; show Slc.Is _ _ _ (_++[[(CS q1 k1 _ k1).v]]); rw [Ce]; exact hr1',λi hi=>by show CS _ _ _ i=nilS; rw [DC om]; exact hn1 i om,
       λhlt=>by
        have h1:=hP (k1+1) hlt
        have h2:=(hDE (k1+1) hlt).2.1
        rw [hv2,if_neg om,eL,show o+A4 E k1+32*E k1*1=o+(A4 E k1+E k1*32) by omega,show n - A4 E k1 - 32*E k1=n - (A4 E k1+E k1*32) by omega,show c - A4 E k1 - 32*E k1=c - (A4 E k1+E k1*32) by omega],
       λi hi=>(Nat.lt_succ_iff_lt_or_eq.1 hi).elim (hk1ok i) (λh=>by rw [h, ← Mv]; exact hb)⟩
      ac6
      (λw hw=>by
       have q:=St.row_in (i:=k1) (v:=.slice (pA gk) (E k1) ck) (M:=[(g0,31,zS33.toArray),(g1,31,(sgx d r1.v).toArray)]) (b:=bk) (n:=N) (r:=q1) (R:=r1.bl++[]) lb3 (hn1 k1 (Nat.le_refl _)) (St.parts (ls:=[[(g0,31,zS33.toArray)],[(g1,31,(sgx d r1.v).toArray)],[(g7,51,#[.slice (pA gk) (E k1) ck])],r1.bl,[bk],Ai q1 N]) (ms:=[[(g0,31,zS33.toArray)],[(g1,31,(sgx d r1.v).toArray)],[bk],Ai q1 N,r1.bl]) [[(g7,51,#[.slice (pA gk) (E k1) ck])]] [0,1,4,5,3,2] kR (by rfl) (by simp) (by simp) hw)
       exact q)
  ·have hn:=dY hb2
   rw [show decide (m.length=A4 E N)=false from decide_eq_false (by rw [hm, ← htl]; exact hn),Bool.false_and,Bool.and_false]
   refine sT<|sC<|sP (AM (List.replicate 32 (0:UInt8)) none 0 0)<|sW 0 g0 31 zS33.toArray zS33.toArray (Writes.row 31 zS33 33 _ _ U kR kR kR (Ag List.length_replicate) (by rw [List.size_toArray,Ag List.length_replicate]) Bo)<|sP (.bool false)<|sG<|Sy.ret<|Sy.then_ret ?_
   exact BD [] rfl (v:=AM (List.replicate 32 (0:UInt8)) none 0 0) (u:=.bool false) (.inl (Res.cell (ty':=31) g0 0 zS33.toArray _ kR kR DV U (by rw [List.size_toArray,Ag List.length_replicate]; kernel_rfl) rfl)) (.inl (show _=_ by kernel_rfl)) (λ_ hw=>hw.none) (.inl ⟨rfl,rfl,rfl⟩)
end Cu
end
end Go.Proofs.YtbjmjcpdonochaaGreatDoor
